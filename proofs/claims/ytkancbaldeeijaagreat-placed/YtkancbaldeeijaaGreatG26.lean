/- Our texts: Pl12, Rp1, Rp2. -/
import Derived.Test.YtkancbaldeeijaaGreatG11
import Derived.Test.YtkancbaldeeijaaGreatG25
/- Package player: Play. -/
namespace Go.Proofs.YtkancbaldeeijaaGreat
open Go.RowKit

theorem build_ply (w : World) (rb ro g n tb : Nat) : (Instr.build 137 #[(0, .pointer (some ⟨rb, ro, none⟩)), (1, .slice (some ⟨g, 0, none⟩) n n), (2, .pointer (some ⟨tb, 0, none⟩))]).run Tryz.prog w = .ok (.agg #[.pointer (some ⟨rb, ro, none⟩), .slice (some ⟨g, 0, none⟩) n n, .pointer (some ⟨tb, 0, none⟩), .slice none 0 0, .slice none 0 0]) w :=
  run_build w 137 _ _ (by kernel_rfl)
attribute [local go_sem] build_ply build_pf build_nopf

/-- How a proof ends: what is left. -/
def leftF (fin : Pl) (goal : List ByteArray) (th : List (List ByteArray)) : Flt :=
  match th with
  | [] => (12, fin)
  | [x] => if eqL x goal = true then noFlt else (12, fin)
  | _ :: _ :: _ => (11, fin)
def playAll (l : List St) (vs : List ByteArray) (ms : List Bool) (fin : Pl) (goal : List ByteArray) : List Stp → List (List ByteArray) × List (List ByteArray) → Flt
  | [], S => leftF fin goal S.2
  | s :: r, S => if ((playF l vs ms S s).1 == 0) = true then playAll l vs ms fin goal r (playF l vs ms S s).2 else ((playF l vs ms S s).1, s.at_)
/-- A proof played. -/
def playAllF (l : List St) (a : Nat) (s : St) (steps : List Stp) : Flt := playAll l (avF l a) (marksF l a (avF l a)) s.fin s.symbols steps ([], [])
theorem playAll_at (l : List St) (vs : List ByteArray) (ms : List Bool) (fin : Pl) (goal : List ByteArray) (steps : List Stp) (S : List (List ByteArray) × List (List ByteArray)) (i : Nat) (hi : i < steps.length) :
    playAll l vs ms fin goal (steps.drop i) S = if ((playF l vs ms S steps[i]).1 == 0) = true then playAll l vs ms fin goal (steps.drop (i + 1)) (playF l vs ms S steps[i]).2 else ((playF l vs ms S steps[i]).1, steps[i].at_) := by
  rw [List.drop_eq_getElem_cons hi]; rfl
theorem playAll_end (l : List St) (vs : List ByteArray) (ms : List Bool) (fin : Pl) (goal : List ByteArray) (steps : List Stp) (S : List (List ByteArray) × List (List ByteArray)) (i : Nat) (hi : ¬ i < steps.length) :
    playAll l vs ms fin goal (steps.drop i) S = leftF fin goal S.2 := by
  rw [List.drop_of_length_le (by omega)]; rfl

theorem stepsV_at (l : List Stp) (k : Nat) (hk : k < l.length) (j : Nat) (hj : j < 5) : (stepsV l)[k * 5 + j]? = (stepV l[k])[j]? := by
  induction l generalizing k with
  | nil => simp at hk
  | cons s r ih =>
    have e : stepsV (s :: r) = stepV s ++ stepsV r := rfl
    rw [e]
    cases k with
    | zero => rw [List.getElem?_append_left (by simp [stepV]; omega)]; simp
    | succ k =>
      rw [List.getElem?_append_right (by simp [stepV]; omega)]
      have e2 : (k + 1) * 5 + j - (stepV s).length = k * 5 + j := by simp [stepV]; omega
      rw [e2, ih k (by simpa using hk)]; rfl
theorem Owns.step {w : World} {h : Hd} {l : List Stp} (o : Owns w h (rowP l)) (k : Nat) (hk : k < l.length) :
    ∃ g, h.ao = some ⟨g, 0, none⟩ ∧ l.length ≤ h.cap ∧ h.cap ≤ 9223372036854775807 ∧ w.cell? ⟨g, k * 5, none⟩ = some (.int .i64 l[k].kind) ∧ w.cell? ⟨g, k * 5 + 1, none⟩ = some (.int .i64 l[k].number) ∧ w.cell? ⟨g, k * 5 + 2, none⟩ = some (.string l[k].at_.file) ∧ w.cell? ⟨g, k * 5 + 3, none⟩ = some (.int .i64 l[k].at_.line) ∧ w.cell? ⟨g, k * 5 + 4, none⟩ = some (.int .i64 l[k].at_.col) := by
  rcases o.ways with ⟨_, h0, _⟩ | ⟨g, cur, e1, e2, e3, e4, -⟩
  · have : l.length = 0 := h0
    omega
  · have c := fun j (hj : j < 5) v (hv : (stepV l[k])[j]? = some v) => o.cell e1 (k * 5 + j) v ((stepsV_at l k hk j hj).trans hv)
    exact ⟨g, e1, e3, by unfold maxLen at e4; exact e4, c 0 (by omega) _ rfl, c 1 (by omega) _ rfl, c 2 (by omega) _ rfl, c 3 (by omega) _ rfl, c 4 (by omega) _ rfl⟩

/-- Steps that can be played. -/
structure StepsOk (l : List St) (steps : List Stp) : Prop where
  len : steps.length ≤ 1100000
  num : ∀ s ∈ steps, s.number ≤ 2000000
  named : ∀ s ∈ steps, (s.kind == 3) = false → s.number < l.length

set_option maxHeartbeats 3000000 in
set_option maxRecDepth 100000 in
theorem Play_any (rb ro g a : Nat) (l : List St) (HR K : Nat → Hd) (hst : Hd) (steps : List Stp) (w : World) (hr : RecAt w rb ro l HR) (ok : RecOk l) (ha : a < l.length) (hall : AllIs w g l l.length K) (hO : Owns w hst (rowP steps)) (hso : StepsOk l steps) :
    Calls Tryz.prog 56 #[.pointer (some ⟨rb, ro, none⟩), .int .i64 a, .slice (some ⟨g, 0, none⟩) l.length l.length, .slice hst.ao steps.length hst.cap] w fun e w' =>
      e = .returned (fltV (playAllF l a l[a] steps)) ∧ Kept [] w w' := by
  have hbw := hr.lt
  have hlen := ok.len
  have hsl := hso.len
  have hyl := ok.syms a ha
  obtain ⟨AO, HAO⟩ : ∃ AO, Hid (hst.ao = AO) := ⟨_, rfl⟩
  rw [HAO.out]
  obtain ⟨W, hW⟩ : ∃ W, W = w.alloc (.cells #[.int .i64 0, .string ⟨#[]⟩, .int .i64 0, .int .i64 0] 115) := ⟨_, rfl⟩
  have kW : Kept [] w W := by rw [hW]; exact (Kept.refl [] _).alloc _
  have BF : W.heap[w.heap.size]? = some (.cells zeroFault 115 (0, 0)) := by rw [hW]; exact heap_alloc_new _ _
  have HW := (show Hid _ from hW.symm)
  have hvl : (avF l a).length ≤ l.length := avTo_len l a l.length
  clear hW
  go_enter Tryz.func56, Tryz.ntmps56
  go_upto_region 1 with fail
  rw [HW.out]
  go_upto_region 2 with (go_at_call 68; refine (activeVariables_any rb ro a l HR _ (by exact hr.still kW) ok).mono ?_; rintro e w2 ⟨hva, rfl, hOv, hNv, k2⟩)
  have K2 := kW.trans k2
  go_wp2_with (go_at_call 69; refine (at_any rb ro a l HR hva (avF l a) _ (by exact hr.still K2) ok (by exact hOv) (by omega)).mono ?_; rintro e w3 ⟨tb, hv, hm, rfl, A3, ht3, hn3, k3⟩)
  have K3 := K2.trans k3
  have BF3 := (k2.trans k3).get BF (by simp)
  have E : PEnv w3 rb ro g tb l HR K (avF l a) (marksF l a (avF l a)) hv hm := ⟨hr.still K3, ok, hall.still K3, A3, marksTo_len _ _ _ _, by omega⟩
  have hO3 : Owns w3 hst (rowP steps) := hO.moved (fun x hx => K3.block x (hO.lt hx) (by simp))
  have P4 : Plays w3 (w3.alloc (.cells #[.pointer (some ⟨rb, ro, none⟩), .slice (some ⟨g, 0, none⟩) l.length l.length, .pointer (some ⟨tb, 0, none⟩), .slice none 0 0, .slice none 0 0] 137)) w3.heap.size rb ro g l.length tb [] [] noHd := by
    refine ⟨⟨⟨heap_alloc_new _ _, ?_, fun i j _ => Or.inl rfl, fun i e => by simp [noHd, Hd.blk] at e⟩, by simp, by simp⟩, (Kept.refl [] _).alloc _, Nat.le_refl _, fun x hx => by obtain ⟨i, hi⟩ := hx; simp [noHd, Hd.blk] at hi⟩
    intro i
    match i with
    | 0 => exact World.ownsRow_nil _ _ _ _
    | 1 => exact World.ownsRow_nil _ _ _ _
    | m + 2 => exact World.ownsRow_nil _ _ _ _
  have hs3 := lt_of_get BF3
  go_loopg [11] steps.length (fun gk iv wr => ∃ (i : Nat) (sh th : List Ex) (H : Nat → Hd), i ≤ steps.length ∧ gk = steps.length - i ∧ iv = .int .i64 i ∧ sh.length ≤ i ∧ th.length ≤ i ∧ Hid (playAllF l a l[a] steps = playAll l (avF l a) (marksF l a (avF l a)) l[a].fin l[a].symbols (steps.drop i) (sh.map Ex.xs, th.map Ex.xs)) ∧ Plays w3 wr w3.heap.size rb ro g l.length tb sh th H)
  case atStart => exact ⟨0, [], [], noHd, by omega, by omega, rfl, by simp, by simp, rfl, P4⟩
  case round =>
    obtain ⟨i, sh, th, H, hi, hg, rfl, hsh, hth, hR, P⟩ := hrel
    clear P4
    have B := P.kept.get BF3 (by simp)
    obtain ⟨z0, z1, z2, z3⟩ := zero_cellsP B
    have yz := free_of B
    have KW := K3.trans P.kept
    have HKR := (show Hid _ from fun a0 a1 a2 a3 => kept4 (F := w.heap.size) KW (Nat.le_refl _) a0 a1 a2 a3)
    by_cases hlt : i < steps.length
    · have hOr : Owns wr hst (rowP steps) := hO3.moved (fun x hx => P.kept.block x (hO3.lt hx) (by simp))
      obtain ⟨gp, ep, ecap, ecap2, d0, d1, d2, d3, d4⟩ := hOr.step i hlt
      obtain rfl : AO = some ⟨gp, 0, none⟩ := HAO.out.symm.trans ep
      have hgp : gp < wr.heap.size := hOr.lt (by unfold Hd.blk; rw [ep]; rfl)
      have h1 := hso.num steps[i] (List.getElem_mem hlt)
      have h2 := hso.named steps[i] (List.getElem_mem hlt)
      have HRN := (show Hid _ from hR.out.trans (playAll_at l (avF l a) (marksF l a (avF l a)) l[a].fin l[a].symbols steps (sh.map Ex.xs, th.map Ex.xs) i hlt))
      have PA := play_any w3 wr w3.heap.size rb ro g tb steps[i] l HR K (avF l a) (marksF l a (avF l a)) hv hm sh th H E P h2 h1 (by omega) (by omega)
      have HDC : Hid (∀ w', Kept [] w3 w' → w'.cell? ⟨gp, i * 5 + 2, none⟩ = some (.string steps[i].at_.file) ∧ w'.cell? ⟨gp, i * 5 + 3, none⟩ = some (.int .i64 steps[i].at_.line) ∧ w'.cell? ⟨gp, i * 5 + 4, none⟩ = some (.int .i64 steps[i].at_.col)) := by
        intro w' k
        obtain ⟨gp', ep', -, -, -, -, q2, q3, q4⟩ := (hO3.moved (w' := w') (fun x hx => k.block x (hO3.lt hx) (by simp))).step i hlt
        rw [ep] at ep'
        cases ep'
        exact ⟨q2, q3, q4⟩
      clear hR ep hOr
      generalize steps[i] = st at *
      obtain ⟨sk, sn, spf, spl, spc⟩ := st
      simp only at d0 d1 d2 d3 d4 PA HDC HRN
      generalize playF l (avF l a) (marksF l a (avF l a)) (sh.map Ex.xs, th.map Ex.xs) ⟨sk, sn, ⟨spf, spl, spc⟩⟩ = Q at *
      obtain ⟨q, Q2⟩ := Q
      simp only at PA HRN
      cases hq : (q == 0)
      · have hq' : (q != 0) = true := by simp [bne, hq]
        have HF : Hid (playAllF l a l[a] steps = (q, ⟨spf, spl, spc⟩)) := by show _ = _; rw [HRN.out, if_neg (by rw [hq]; simp)]
        clear HRN
        go_upto_region 8 with (go_at_call 70; refine PA.mono ?_; rintro e w5 ⟨sh5, th5, H5, rfl, P5, hS5, -, -⟩)
        obtain ⟨c2, c3, c4⟩ := HDC.out w5 P5.kept
        have B5 := P5.kept.get BF3 (by simp)
        clear z0 z1 z2 z3 yz d0 d1 d2 d3 d4 HKR
        obtain ⟨z0, z1, z2, z3⟩ := zero_cellsP B5
        have yz := free_of B5
        have K5 := K3.trans P5.kept
        go_wp2
        exact bodyPost_ret (v := .agg #[.int .i64 q, .string spf, .int .i64 spl, .int .i64 spc]) (by simp [results, Tryz.results56, go_sem, z0, z1, z2, z3]) rfl
          ⟨by rw [HF.out]; rfl, kept4 (F := w.heap.size) K5 (Nat.le_refl _) _ _ _ _⟩
      · have hq' : (q != 0) = false := by simp [bne, hq]
        have HF : Hid (playAllF l a l[a] steps = playAll l (avF l a) (marksF l a (avF l a)) l[a].fin l[a].symbols (steps.drop (i + 1)) Q2) := by show _ = _; rw [HRN.out, if_pos hq]
        clear HRN
        go_wp2_with (go_at_call 70; refine PA.mono ?_; rintro e w5 ⟨sh5, th5, H5, rfl, P5, hS5, hl5, hl6⟩)
        go_roundg (steps.length - (i + 1))
        case measure => omega
        case rel => exact ⟨i + 1, sh5, th5, H5, by omega, rfl, by go_num, by omega, by omega, by show _ = _; rw [hS5 hq]; exact HF.out, P5⟩
    · have HE := (show Hid _ from hR.out.trans (playAll_end l (avF l a) (marksF l a (avF l a)) l[a].fin l[a].symbols steps (sh.map Ex.xs, th.map Ex.xs) i hlt))
      have Er := E.still P.kept
      clear hR
      go_upto_region 10 with (go_at_call 43; refine (statement_any rb ro a l HR _ (by exact Er.recd) ha).mono ?_; rintro e w5 ⟨rfl, k5⟩; unfold stVal)
      obtain ⟨X, hX⟩ : ∃ X, X = w5.alloc (.cells #[.int .i64 l[a].kind, .string l[a].label, .slice (HR (10 + 2 * a)).ao l[a].symbols.length (HR (10 + 2 * a)).cap, .slice (HR (11 + 2 * a)).ao l[a].proof.length (HR (11 + 2 * a)).cap, .string l[a].fin.file, .int .i64 l[a].fin.line, .int .i64 l[a].fin.col, .int .i64 l[a].til] 100) := ⟨_, rfl⟩
      have kX : Kept [] wr X := by rw [hX]; exact k5.alloc _
      have BX : X.heap[w5.heap.size]? = some (.cells #[.int .i64 l[a].kind, .string l[a].label, .slice (HR (10 + 2 * a)).ao l[a].symbols.length (HR (10 + 2 * a)).cap, .slice (HR (11 + 2 * a)).ao l[a].proof.length (HR (11 + 2 * a)).cap, .string l[a].fin.file, .int .i64 l[a].fin.line, .int .i64 l[a].fin.col, .int .i64 l[a].til] 100 (0, 0)) := by rw [hX]; exact heap_alloc_new _ _
      rw [← hX]
      have PX := P.still kX
      have B5 := kX.get B (by simp)
      clear hX z0 z1 z2 z3 yz
      obtain ⟨z0, z1, z2, z3⟩ := zero_cellsP B5
      have yz := free_of B5
      have KX := KW.trans kX
      have m2 : X.cell? ⟨w5.heap.size, 2, none⟩ = some (.slice (HR (10 + 2 * a)).ao l[a].symbols.length (HR (10 + 2 * a)).cap) := by rw [cell_of BX]; rfl
      have m4 : X.cell? ⟨w5.heap.size, 4, none⟩ = some (.string l[a].fin.file) := by rw [cell_of BX]; rfl
      have m5 : X.cell? ⟨w5.heap.size, 5, none⟩ = some (.int .i64 l[a].fin.line) := by rw [cell_of BX]; rfl
      have m6 : X.cell? ⟨w5.heap.size, 6, none⟩ = some (.int .i64 l[a].fin.col) := by rw [cell_of BX]; rfl
      have p4 := PX.ply.cells.2
      have hbX := PX.ply.bag.lt
      rcases th with _ | ⟨x, th⟩
      · have HF : Hid (playAllF l a l[a] steps = (12, l[a].fin)) := HE.out
        simp only [List.length_nil] at p4
        clear HE
        go_upto_region 12 with fail
        go_quiet (fail)
        go_wp2
        exact bodyPost_ret (v := .agg #[.int .i64 12, .string l[a].fin.file, .int .i64 l[a].fin.line, .int .i64 l[a].fin.col]) (by simp [results, Tryz.results56, go_sem, z0, z1, z2, z3]) rfl
          ⟨by rw [HF.out]; rfl, kept4 (F := w.heap.size) (KX.drewN _) (Nat.le_refl _) _ _ _ _⟩
      · rcases th with _ | ⟨y, th⟩
        · have hE : playAllF l a l[a] steps = if eqL x.xs l[a].symbols = true then noFlt else (12, l[a].fin) := HE.out
          have HEH := (show Hid _ from hE)
          have oT : Owns X (H 1) (rowE [x]) := PX.ply.bag.own 1
          rcases oT.ways with ⟨_, h0, _⟩ | ⟨gt, curt, et, -, et3, -⟩
          · simp [rowE] at h0
          have ct := oT.cell et 0 (exV x) rfl
          unfold exV at ct
          rw [et] at p4
          simp only [List.length_cons, List.length_nil] at p4
          have hcpt : 1 ≤ (H 1).cap := et3
          have hfar := (PX.ply.ths x (by simp))
          have HEQ := (show Hid _ from fun (w' : World) (k : Kept [] X w') => equal_any x.hd (HR (10 + 2 * a)) x.xs l[a].symbols w' (hfar.1.view.still k) (((Er.still (kX.trans k)).recd.sts.syms a l[a] (List.getElem?_eq_getElem ha)).view) (by omega) (by omega))
          have HC : Hid (∀ w', Kept [] X w' → w'.cell? ⟨w3.heap.size, 4, none⟩ = some (.slice (some ⟨gt, 0, none⟩) 1 (H 1).cap) ∧ w'.cell? ⟨gt, 0, none⟩ = some (.slice x.hd.ao x.xs.length x.hd.cap) ∧ w'.cell? ⟨w5.heap.size, 2, none⟩ = some (.slice (HR (10 + 2 * a)).ao l[a].symbols.length (HR (10 + 2 * a)).cap)) := by
            intro w' k
            refine ⟨?_, ((PX.still k).ply.bag.own 1).cell et 0 (exV x) rfl, ?_⟩
            · rw [← et]; exact (PX.still k).ply.cells.2
            · rw [cell_of (k.get BX (by simp))]; rfl
          clear hE HE et oT
          go_upto_region 12 with fail
          cases heq : eqL x.xs l[a].symbols
          · have HF : Hid (playAllF l a l[a] steps = (12, l[a].fin)) := by show _ = _; rw [HEH.out, heq]; rfl
            rw [heq] at HEQ
            clear HEH
            go_region_held3 (fun w' => w'.cell? ⟨w3.heap.size, 4, none⟩ = some (.slice (some ⟨gt, 0, none⟩) 1 (H 1).cap) ∧ w'.cell? ⟨gt, 0, none⟩ = some (.slice x.hd.ao x.xs.length x.hd.cap) ∧ w'.cell? ⟨w5.heap.size, 2, none⟩ = some (.slice (HR (10 + 2 * a)).ao l[a].symbols.length (HR (10 + 2 * a)).cap)) (go_keep) (first | (go_at_call 71; refine (HEQ.out _ (by exact (Kept.refl [] X).drew)).mono ?_; rintro e w6 ⟨rfl, k6⟩; obtain ⟨x0, x1, x2⟩ := HC.out w6 ((Kept.refl [] X).drew.trans k6)))
            all_goals
              have kk := ((Kept.refl [] X).drew.trans k6)
              have BX6 := kk.get BX (by simp)
              have B6 := kk.get B5 (by simp)
              clear z0 z1 z2 z3 yz m2 m4 m5 m6 p4 ct
              obtain ⟨z0, z1, z2, z3⟩ := zero_cellsP B6
              have yz := free_of B6
              have m4 : w6.cell? ⟨w5.heap.size, 4, none⟩ = some (.string l[a].fin.file) := by rw [cell_of BX6]; rfl
              have m5 : w6.cell? ⟨w5.heap.size, 5, none⟩ = some (.int .i64 l[a].fin.line) := by rw [cell_of BX6]; rfl
              have m6 : w6.cell? ⟨w5.heap.size, 6, none⟩ = some (.int .i64 l[a].fin.col) := by rw [cell_of BX6]; rfl
              go_wp2
              exact bodyPost_ret (v := .agg #[.int .i64 12, .string l[a].fin.file, .int .i64 l[a].fin.line, .int .i64 l[a].fin.col]) (by simp [results, Tryz.results56, go_sem, z0, z1, z2, z3]) rfl ⟨by rw [HF.out]; rfl, kept4 (F := w.heap.size) (KX.trans kk) (Nat.le_refl _) _ _ _ _⟩
          · have HF : Hid (playAllF l a l[a] steps = noFlt) := by show _ = _; rw [HEH.out, heq]; rfl
            rw [heq] at HEQ
            clear HEH
            go_region_held3 (fun w' => w'.cell? ⟨w3.heap.size, 4, none⟩ = some (.slice (some ⟨gt, 0, none⟩) 1 (H 1).cap) ∧ w'.cell? ⟨gt, 0, none⟩ = some (.slice x.hd.ao x.xs.length x.hd.cap) ∧ w'.cell? ⟨w5.heap.size, 2, none⟩ = some (.slice (HR (10 + 2 * a)).ao l[a].symbols.length (HR (10 + 2 * a)).cap)) (go_keep) (first | (go_at_call 71; refine (HEQ.out _ (by exact (Kept.refl [] X).drew)).mono ?_; rintro e w6 ⟨rfl, k6⟩; obtain ⟨x0, x1, x2⟩ := HC.out w6 ((Kept.refl [] X).drew.trans k6)))
            all_goals
              have kk := ((Kept.refl [] X).drew.trans k6)
              have B6 := kk.get B5 (by simp)
              clear z0 z1 z2 z3 yz m2 m4 m5 m6 p4 ct
              obtain ⟨z0, z1, z2, z3⟩ := zero_cellsP B6
              have yz := free_of B6
              go_wp2
              exact bodyPost_ret (v := .agg #[.int .i64 0, .string ⟨#[]⟩, .int .i64 0, .int .i64 0]) (by simp [results, Tryz.results56, go_sem, z0, z1, z2, z3]) rfl ⟨by rw [HF.out]; rfl, kept4 (F := w.heap.size) (KX.trans kk) (Nat.le_refl _) _ _ _ _⟩
        · have HF : Hid (playAllF l a l[a] steps = (11, l[a].fin)) := HE.out
          have hgt : ((th.length : Int) + 1 + 1 > 1) := by omega
          simp only [List.length_cons] at p4
          clear HE
          go_wp2
          exact bodyPost_ret (v := .agg #[.int .i64 11, .string l[a].fin.file, .int .i64 l[a].fin.line, .int .i64 l[a].fin.col]) (by simp [results, Tryz.results56, go_sem, z0, z1, z2, z3]) rfl
            ⟨by rw [HF.out]; rfl, kept4 (F := w.heap.size) KX (Nat.le_refl _) _ _ _ _⟩

end Go.Proofs.YtkancbaldeeijaaGreat

/- Package report: rows; verdict, firstUnknown, restOnVerified. -/
namespace Go.Proofs.YtkancbaldeeijaaGreat
open Go.RowKit

/-- A report at a place: its record, its rows. -/
structure RepAt (w : World) (b o : Nat) (l : List St) (H : Nat → Hd) (g : Nat) (L : List Rw) : Prop where
  recd : RecAt w b o l H
  cell : ∃ arr t, w.heap[b]? = some (.cells arr t (0, 0)) ∧ arr[o + 2]? = some (.slice (some ⟨g, 0, none⟩) L.length L.length)
  arr : w.heap[g]? = some (.cells (rwsV L).toArray 71 (0, 0))
theorem RepAt.still {w w' : World} {b o : Nat} {l : List St} {H : Nat → Hd} {g : Nat} {L : List Rw} (h : RepAt w b o l H g L) (k : Kept [] w w') : RepAt w' b o l H g L := by
  obtain ⟨arr, t, h1, h2⟩ := h.cell
  exact ⟨h.recd.still k, ⟨arr, t, k.get h1 (by simp), h2⟩, k.get h.arr (by simp)⟩
theorem RepAt.at2 {w : World} {b o : Nat} {l : List St} {H : Nat → Hd} {g : Nat} {L : List Rw} (h : RepAt w b o l H g L) : w.cell? ⟨b, o + 2, none⟩ = some (.slice (some ⟨g, 0, none⟩) L.length L.length) := by
  obtain ⟨arr, t, h1, h2⟩ := h.cell
  rw [cell_of h1]; exact h2
theorem RepAt.row {w : World} {b o : Nat} {l : List St} {H : Nat → Hd} {g : Nat} {L : List Rw} (h : RepAt w b o l H g L) (k : Nat) (hk : k < L.length) :
    w.cell? ⟨g, k * 6, none⟩ = some (.string L[k].label) ∧ w.cell? ⟨g, k * 6 + 1, none⟩ = some (.int .i64 L[k].verdict) ∧ w.cell? ⟨g, k * 6 + 2, none⟩ = some (.int .i64 L[k].why) ∧ w.cell? ⟨g, k * 6 + 3, none⟩ = some (.string L[k].at_.file) ∧ w.cell? ⟨g, k * 6 + 4, none⟩ = some (.int .i64 L[k].at_.line) ∧ w.cell? ⟨g, k * 6 + 5, none⟩ = some (.int .i64 L[k].at_.col) := by
  have c := fun j (hj : j < 6) v (hv : (rwV L[k])[j]? = some v) => (cell_of h.arr (k * 6 + j)).trans ((by simp only [List.getElem?_toArray]; exact (rwsV_at L k hk j hj).trans hv))
  exact ⟨c 0 (by omega) _ rfl, c 1 (by omega) _ rfl, c 2 (by omega) _ rfl, c 3 (by omega) _ rfl, c 4 (by omega) _ rfl, c 5 (by omega) _ rfl⟩

/-- The verdict on the statement of a number. -/
def verF (L : List Rw) (n : Nat) : Int := (L.getD n zRw).verdict

set_option maxHeartbeats 800000 in
theorem verdict_any (b o n : Nat) (l : List St) (H : Nat → Hd) (g : Nat) (L : List Rw) (w : World) (h : RepAt w b o l H g L) :
    Calls Tryz.prog 72 #[.pointer (some ⟨b, o, none⟩), .int .i64 n] w fun e w' => e = .returned (.int .i64 (verF L n)) ∧ w' = w := by
  have c2 := h.at2
  by_cases hlt : n < L.length
  · have HV : Hid (verF L n = L[n].verdict) := by show _ = _; unfold verF; rw [List.getD_eq_getElem?_getD, List.getElem?_eq_getElem hlt]; rfl
    obtain ⟨-, c3, -, -, -, -⟩ := h.row n hlt
    have hlti : ¬ ((n : Int) ≥ L.length) := by omega
    go_enter Tryz.func72, Tryz.ntmps72
    go_wp2
    go_ret
    exact ⟨ret_int (by rw [HV.out]), rfl⟩
  · have HV : Hid (verF L n = 0) := by show _ = _; unfold verF; rw [List.getD_eq_getElem?_getD, List.getElem?_eq_none (by omega)]; rfl
    have hlti : (n : Int) ≥ L.length := by omega
    go_enter Tryz.func72, Tryz.ntmps72
    go_wp2
    go_ret
    exact ⟨ret_int (by rw [HV.out]), rfl⟩

/-- The first step that is unknown. -/
def unkF (steps : List Stp) : Option Nat := (List.range steps.length).find? (fun i => match steps[i]? with | some s => s.kind == 1 | none => false)

set_option maxHeartbeats 800000 in
theorem firstUnknown_any (hd : Hd) (steps : List Stp) (w : World) (ho : Owns w hd (rowP steps)) (hl : steps.length ≤ 1073741824) :
    Calls Tryz.prog 55 #[.slice hd.ao steps.length hd.cap] w fun e w' => e = .returned (.int .i64 (optV (unkF steps))) ∧ w' = w := by
  obtain ⟨AO, HAO⟩ : ∃ AO, Hid (hd.ao = AO) := ⟨_, rfl⟩
  rw [HAO.out]
  go_enter Tryz.func55, Tryz.ntmps55
  go_wp2
  go_loopg [3] steps.length (fun g i wr => ∃ k : Nat, k ≤ steps.length ∧ g = steps.length - k ∧ i = .int .i64 k ∧ Hid (∀ i, i < k → (match steps[i]? with | some s => s.kind == 1 | none => false) = false) ∧ wr = w)
  case atStart => exact ⟨0, by omega, by omega, rfl, fun i hi => by omega, rfl⟩
  case round =>
    obtain ⟨k, hk, hg, rfl, hall, rfl⟩ := hrel
    by_cases hlt : k < steps.length
    · obtain ⟨gp, ep, ecap, ecap2, d0, -⟩ := ho.step k hlt
      obtain rfl : AO = some ⟨gp, 0, none⟩ := HAO.out.symm.trans ep
      clear ep
      have HG : Hid (steps[k]? = some steps[k]) := List.getElem?_eq_getElem hlt
      generalize steps[k] = st at *
      cases hb : (st.kind == 1)
      · have HN : Hid (∀ i, i < k + 1 → (match steps[i]? with | some s => s.kind == 1 | none => false) = false) := by
          intro i hi
          by_cases e : i = k
          · subst e; rw [HG.out]; exact hb
          · exact hall.out i (by omega)
        clear HG hall
        go_wp2
        go_roundg (steps.length - (k + 1))
        case measure => omega
        case rel => exact ⟨k + 1, by omega, rfl, by go_num, HN, rfl⟩
      · have HF : Hid (unkF steps = some k) := range_hit hlt (by rw [HG.out]; exact hb) hall.out
        clear HG hall
        go_wp2
        go_ret
        exact ⟨ret_int (by rw [HF.out]; rfl), rfl⟩
    · have HF : Hid (unkF steps = none) := range_none (fun i hi => hall.out i (by omega))
      clear hall
      go_wp2
      go_ret
      exact ⟨ret_int (by rw [HF.out]; rfl), rfl⟩

/-- Whether what the steps name is verified, or taken for granted, or no assertion. -/
def badV (v : Int) : Bool := v == 2 || v == 3 || v == 4
def restF (L : List Rw) (steps : List Stp) : Bool := steps.all (fun s => !(s.kind == 2) || !(badV (verF L s.number)))
theorem rest_no (L : List Rw) (steps : List Stp) (k : Nat) (hk : k < steps.length) (h1 : (steps[k].kind == 2) = true) (h2 : badV (verF L steps[k].number) = true) : restF L steps = false := by
  cases e : restF L steps
  · rfl
  · unfold restF at e; rw [List.all_eq_true] at e
    have := e _ (List.getElem_mem hk)
    rw [h1, h2] at this; cases this
theorem rest_yes (L : List Rw) (steps : List Stp) (h : ∀ k (hk : k < steps.length), (!(steps[k].kind == 2) || !(badV (verF L steps[k].number))) = true) : restF L steps = true := by
  unfold restF; rw [List.all_eq_true]
  intro x hx
  obtain ⟨k, hk, rfl⟩ := List.getElem_of_mem hx
  exact h k hk

set_option maxHeartbeats 1600000 in
theorem rest_any (b o : Nat) (l : List St) (H : Nat → Hd) (g : Nat) (L : List Rw) (hd : Hd) (steps : List Stp) (w : World) (h : RepAt w b o l H g L) (ho : Owns w hd (rowP steps)) (hsl : steps.length ≤ 1100000) :
    Calls Tryz.prog 57 #[.pointer (some ⟨b, o, none⟩), .slice hd.ao steps.length hd.cap] w fun e w' => e = .returned (.bool (restF L steps)) ∧ w' = w := by
  obtain ⟨AO, HAO⟩ : ∃ AO, Hid (hd.ao = AO) := ⟨_, rfl⟩
  rw [HAO.out]
  go_enter Tryz.func57, Tryz.ntmps57
  go_wp2
  go_loopg [5] steps.length (fun g i wr => ∃ k : Nat, k ≤ steps.length ∧ g = steps.length - k ∧ i = .int .i64 k ∧ Hid (∀ i (hi : i < steps.length), i < k → (!(steps[i].kind == 2) || !(badV (verF L steps[i].number))) = true) ∧ wr = w)
  case atStart => exact ⟨0, by omega, by omega, rfl, fun i _ hi => by omega, rfl⟩
  case round =>
    obtain ⟨k, hk, hg, rfl, hall, rfl⟩ := hrel
    by_cases hlt : k < steps.length
    · obtain ⟨gp, ep, ecap, ecap2, d0, d1, -⟩ := ho.step k hlt
      obtain rfl : AO = some ⟨gp, 0, none⟩ := HAO.out.symm.trans ep
      clear ep
      have HNX : Hid ((!(steps[k].kind == 2) || !(badV (verF L steps[k].number))) = true → ∀ i (hi : i < steps.length), i < k + 1 → (!(steps[i].kind == 2) || !(badV (verF L steps[i].number))) = true) := by
        intro hh i hi hik
        by_cases e : i = k
        · subst e; exact hh
        · exact hall.out i hi (by omega)
      have HNO := (show Hid _ from rest_no L steps k hlt)
      have VE := verdict_any b o steps[k].number l H g L wr h
      clear hall
      generalize steps[k] = st at *
      cases hb : (st.kind == 2)
      · have hb' : (st.kind != 2) = true := by simp [bne, hb]
        have HN := (show Hid _ from HNX.out (by rw [hb]; rfl))
        clear HNX HNO VE
        go_wp2
        go_roundg (steps.length - (k + 1))
        case measure => omega
        case rel => exact ⟨k + 1, by omega, rfl, by go_num, HN.out, rfl⟩
      · have hb' : (st.kind != 2) = false := by simp [bne, hb]
        have HBV : Hid (∀ v, badV v = (v == 2 || v == 3 || v == 4)) := fun _ => rfl
        generalize verF L st.number = V at *
        cases h2 : (V == 2)
        · cases h3 : (V == 3)
          · cases h4 : (V == 4)
            · have HN := (show Hid _ from HNX.out (by rw [HBV.out, h2, h3, h4]; simp))
              clear HNX HNO
              go_wp2_with (go_at_call 72; refine VE.mono ?_; rintro e w3 ⟨rfl, hw3⟩; rw [hw3])
              go_roundg (steps.length - (k + 1))
              case measure => omega
              case rel => exact ⟨k + 1, by omega, rfl, by go_num, HN.out, rfl⟩
            · have HF := (show Hid _ from HNO.out hb (by rw [HBV.out, h2, h3, h4]; rfl))
              clear HNX HNO
              go_wp2_with (go_at_call 72; refine VE.mono ?_; rintro e w3 ⟨rfl, hw3⟩; rw [hw3])
              go_ret
              exact ⟨ret_bool HF.out.symm, rfl⟩
          · have HF := (show Hid _ from HNO.out hb (by rw [HBV.out, h2, h3]; rfl))
            clear HNX HNO
            go_wp2_with (go_at_call 72; refine VE.mono ?_; rintro e w3 ⟨rfl, hw3⟩; rw [hw3])
            go_ret
            exact ⟨ret_bool HF.out.symm, rfl⟩
        · have HF := (show Hid _ from HNO.out hb (by rw [HBV.out, h2]; rfl))
          clear HNX HNO
          go_wp2_with (go_at_call 72; refine VE.mono ?_; rintro e w3 ⟨rfl, hw3⟩; rw [hw3])
          go_ret
          exact ⟨ret_bool HF.out.symm, rfl⟩
    · have HF : Hid (restF L steps = true) := rest_yes L steps (fun i hi => hall.out i hi (by omega))
      clear hall
      go_wp2
      go_ret
      exact ⟨ret_bool HF.out.symm, rfl⟩

end Go.Proofs.YtkancbaldeeijaaGreat

/- Package report: the steps of a proof can be played. -/
namespace Go.Proofs.YtkancbaldeeijaaGreat
open Go.RowKit

theorem findHF_lt {l : List St} {t : ByteArray} {a n : Nat} (h : findHF l t a = some n) : n < l.length := by
  unfold findHF at h
  have := List.mem_of_find?_eq_some h
  simpa using this

/-- A step that can be played. -/
def GoodS (l : List St) (s : Stp) : Prop := s.number ≤ 1020000 ∧ ((s.kind == 3) = false → s.number < l.length)
theorem norm_good (l : List St) (a : Nat) (fin : Pl) (hl : 0 < l.length) (hl2 : l.length ≤ 10000) (ws : List (ByteArray × Pl)) (acc : List Stp) (h : ∀ s ∈ acc, GoodS l s) (N : Nat) (hN : acc.length ≤ N) :
    (∀ s ∈ (normF l a fin ws acc).1, GoodS l s) ∧ (normF l a fin ws acc).1.length ≤ N + ws.length := by
  induction ws generalizing acc N with
  | nil =>
    rw [normF]
    split
    · exact ⟨by simp, by simp⟩
    · exact ⟨h, by simpa using hN⟩
  | cons x r ih =>
    obtain ⟨t, p⟩ := x
    rw [normF]
    split
    · have := ih (acc ++ [⟨1, 0, p⟩]) (by intro s hs; simp at hs; rcases hs with hs | rfl; exact h s hs; exact ⟨by simp, fun _ => hl⟩) (N + 1) (by simp; omega)
      exact ⟨this.1, by have := this.2; simp; omega⟩
    · split
      · exact ⟨by simp, by simp⟩
      · next n hn =>
        have hlt := findHF_lt hn
        have := ih (acc ++ [⟨2, n, p⟩]) (by intro s hs; simp at hs; rcases hs with hs | rfl; exact h s hs; exact ⟨by simp only; omega, fun _ => hlt⟩) (N + 1) (by simp; omega)
        exact ⟨this.1, by have := this.2; simp; omega⟩

/-- What is read of a compressed proof can be played. -/
structure CmpG (l : List St) (c : Cmp) : Prop where
  names : ∀ n ∈ c.names, n < l.length
  tagged : ∀ n ∈ c.tagged, n ≤ 1020000
  steps : ∀ s ∈ c.steps, GoodS l s
theorem CmpG.letter {l : List St} {c : Cmp} {N : Nat} (g : CmpG l c) (h : CmpOk c N) (hl : 0 < l.length) (hl2 : l.length ≤ 10000) (hN : N ≤ 1020000) (n : Nat) (p : Pl) : CmpG l (takeLetF c n p).2 := by
  have h3 := h.steps
  unfold takeLetF
  split
  · unfold endNumF addStepF
    split
    · next hlt =>
      refine ⟨g.names, g.tagged, ?_⟩
      intro s hs; simp at hs
      rcases hs with hs | rfl
      · exact g.steps s hs
      · have := g.names _ (List.getElem_mem hlt)
        rw [List.getElem?_eq_getElem hlt]
        exact ⟨by simp only [Option.getD_some]; omega, fun _ => this⟩
    · split
      · next hlt =>
        refine ⟨g.names, g.tagged, ?_⟩
        intro s hs; simp at hs
        rcases hs with hs | rfl
        · exact g.steps s hs
        · have := g.tagged _ (List.getElem_mem hlt)
          rw [List.getElem?_eq_getElem hlt]
          exact ⟨this, fun e => by simp at e⟩
      · exact ⟨g.names, g.tagged, g.steps⟩
  · split
    · unfold takeDigF
      split <;> exact ⟨g.names, g.tagged, g.steps⟩
    · split
      · refine ⟨g.names, ?_, g.steps⟩
        intro x hx; simp at hx
        rcases hx with hx | rfl
        · exact g.tagged x hx
        · omega
      · split
        · refine ⟨g.names, g.tagged, ?_⟩
          intro s hs; simp [addStepF] at hs
          rcases hs with hs | rfl
          · exact g.steps s hs
          · exact ⟨by simp, fun _ => hl⟩
        · exact g
theorem wordLet_good {l : List St} (hl : 0 < l.length) (hl2 : l.length ≤ 10000) (t : ByteArray) (p : Pl) (f : Nat) : ∀ (j : Nat) (c : Cmp) (N : Nat), CmpG l c → CmpOk c (N + j) → j ≤ t.size → N + t.size ≤ 1020000 → CmpG l (wordLet t p f j c).2 := by
  induction f with
  | zero => intro j c N g h hj hN; exact g
  | succ f ih =>
    intro j c N g h hj hN
    rw [wordLet]
    split
    · next hlt =>
      have h2 := h.letter (byteAt t j).toNat { p with col := p.col + j }
      have g2 := g.letter h hl hl2 (by omega) (byteAt t j).toNat { p with col := p.col + j }
      split
      · exact ih (j + 1) _ N g2 (by rw [← Nat.add_assoc]; exact h2) (by omega) hN
      · exact g2
    · exact g
theorem wordsLF_good {l : List St} (hl : 0 < l.length) (hl2 : l.length ≤ 10000) (ws : List (ByteArray × Pl)) : ∀ (c : Cmp) (N : Nat), CmpG l c → CmpOk c N → N + sizes ws ≤ 1020000 → CmpG l (wordsLF ws c).2 ∧ CmpOk (wordsLF ws c).2 1020000 := by
  induction ws with
  | nil => intro c N g h hN; exact ⟨g, h.mono (by simp [sizes] at hN; omega)⟩
  | cons x r ih =>
    intro c N g h hN
    obtain ⟨t, p⟩ := x
    have es : sizes ((t, p) :: r) = t.size + sizes r := by simp [sizes]
    rw [es] at hN
    have g1 : CmpG l (wordLF t p c).2 := wordLet_good hl hl2 t p _ 0 c N g h (Nat.zero_le _) (by omega)
    have h1 := wordLF_ok t p h
    rw [wordsLF]
    split
    · exact ih _ (N + t.size) g1 h1 (by omega)
    · exact ⟨g1, h1.mono (by omega)⟩
theorem block_good (l : List St) (a : Nat) (fin : Pl) (ws : List (ByteArray × Pl)) (i : Nat) (ns : List Nat) (h : ∀ n ∈ ns, n < l.length) : ∀ n ∈ (blockL l a fin i ws ns).2, n < l.length := by
  induction ws generalizing i ns with
  | nil => exact h
  | cons x r ih =>
    obtain ⟨t, p⟩ := x
    rw [blockL]
    split
    · exact h
    · split
      · exact h
      · next n hn =>
        split
        · exact h
        · exact ih (i + 1) (ns ++ [n]) (by intro m hm; simp at hm; rcases hm with hm | rfl; exact h m hm; exact findHF_lt hn)

theorem prf_ok (l : List St) (a : Nat) (ok : RecOk l) (ha : a < l.length) (okp : PrfOk l[a]) : StepsOk l (prfF l a l[a]).1 := by
  have hl : 0 < l.length := by omega
  have hp := ok.prfs a ha
  have hsz := okp.size
  have key : (∀ s ∈ (prfF l a l[a]).1, GoodS l s) ∧ (prfF l a l[a]).1.length ≤ 1100000 := by
    unfold prfF
    split
    · unfold compF compR
      have c0 := comp0_ok l a l[a] ok.len hp
      have g0 : CmpG l ⟨(blockL l a l[a].fin 1 (l[a].proof.drop 1) (hypsF l a)).2, [], [], 0, false⟩ := ⟨block_good l a l[a].fin _ 1 _ (fun n hn => hypsF_lt hn), by simp, by simp⟩
      generalize blockL l a l[a].fin 1 (l[a].proof.drop 1) (hypsF l a) = BL at *
      obtain ⟨⟨nx, bf⟩, ns⟩ := BL
      simp only at c0 g0 ⊢
      have key2 : CmpG l (onw bf (l[a].proof.drop nx) ⟨ns, [], [], 0, false⟩).2 ∧ CmpOk (onw bf (l[a].proof.drop nx) ⟨ns, [], [], 0, false⟩).2 1020000 := by
        unfold onw
        split
        · exact wordsLF_good hl ok.len _ _ 20000 g0 c0 (by have := sizes_le l[a].proof nx; omega)
        · exact ⟨g0, c0.mono (by omega)⟩
      generalize onw bf (l[a].proof.drop nx) ⟨ns, [], [], 0, false⟩ = R at *
      unfold compE
      split
      · split
        · split
          · exact ⟨by simp, by simp⟩
          · exact ⟨key2.1.steps, by have := key2.2.steps; simp only; omega⟩
        · exact ⟨by simp, by simp⟩
      · exact ⟨by simp, by simp⟩
    · have := norm_good l a l[a].fin hl ok.len l[a].proof [] (by simp) 0 (by simp)
      exact ⟨this.1, by have := this.2; omega⟩
  exact ⟨key.2, fun s hs => by have := (key.1 s hs).1; omega, fun s hs => (key.1 s hs).2⟩

end Go.Proofs.YtkancbaldeeijaaGreat
