/- Our texts: Rp1, Rp2, Rp3, Rp4, Rp4b, Fore. -/
import Derived.Test.YtcipkfhpcbddiaaGreatG09
import Derived.Test.YtcipkfhpcbddiaaGreatG17
/- Package report: rows; verdict, firstUnknown, restOnVerified. -/
namespace Go.Proofs.YtcipkfhpcbddiaaGreat
open Go.RowKit

/-- A report at a place: its record, its rows. -/
structure RepAt (w : World) (b o : Nat) (l : List St) (H : Nat → Hd) (g : Nat) (L : List Rw) : Prop where
  recd : RecAt w b o l H
  cell : ∃ arr t, w.heap[b]? = some (.cells arr t (0, 0)) ∧ arr[o + 2]? = some (.slice (some ⟨g, 0, none⟩) L.length L.length)
  arr : w.heap[g]? = some (.cells (rwsV L).toArray 59 (0, 0))
theorem RepAt.still {w w' : World} {b o : Nat} {l : List St} {H : Nat → Hd} {g : Nat} {L : List Rw} (h : RepAt w b o l H g L) (k : Kept [] w w') : RepAt w' b o l H g L := by
  obtain ⟨arr, t, h1, h2⟩ := h.cell
  exact ⟨h.recd.still k, ⟨arr, t, k.get h1 (by simp), h2⟩, k.get h.arr (by simp)⟩
theorem RepAt.at2 {w : World} {b o : Nat} {l : List St} {H : Nat → Hd} {g : Nat} {L : List Rw} (h : RepAt w b o l H g L) : w.cell? ⟨b, o + 2, none⟩ = some (.slice (some ⟨g, 0, none⟩) L.length L.length) := by
  obtain ⟨arr, t, h1, h2⟩ := h.cell
  rw [cell_of h1]; exact h2
theorem RepAt.row {w : World} {b o : Nat} {l : List St} {H : Nat → Hd} {g : Nat} {L : List Rw} (h : RepAt w b o l H g L) (k : Nat) (hk : k < L.length) :
    w.cell? ⟨g, k * 6, none⟩ = some (.string L[k].label) ∧ w.cell? ⟨g, k * 6 + 1, none⟩ = some (.int .i64 L[k].verdict) ∧ w.cell? ⟨g, k * 6 + 2, none⟩ = some (.int .i64 L[k].why) ∧ w.cell? ⟨g, k * 6 + 3, none⟩ = some (.string L[k].at_.file) ∧ w.cell? ⟨g, k * 6 + 4, none⟩ = some (.int .i64 L[k].at_.line) ∧ w.cell? ⟨g, k * 6 + 5, none⟩ = some (.int .i64 L[k].at_.col) := by
  have c := fun j (hj : j < 6) v (hv : (rwV L[k])[j]? = some v) => (cell_of h.arr (k * 6 + j)).trans ((by simp only [List.getElem?_toArray]; exact (rwsV_at L k hk j hj).trans hv))
  exact ⟨c 0 (by omega) _ rfl, c 1 (by omega) _ rfl, c 2 (by omega) _ rfl, c 3 (by omega) _ rfl, c 4 (by omega) _ rfl, c 5 (by omega) _ rfl⟩

/-- The verdict on the statement of a number. -/
def verF (L : List Rw) (n : Nat) : Int := (L.getD n zRw).verdict

set_option maxHeartbeats 800000 in
theorem verdict_any (b o n : Nat) (l : List St) (H : Nat → Hd) (g : Nat) (L : List Rw) (w : World) (h : RepAt w b o l H g L) :
    Calls Tryz.prog 88 #[.pointer (some ⟨b, o, none⟩), .int .i64 n] w fun e w' => e = .returned (.int .i64 (verF L n)) ∧ w' = w := by
  have c2 := h.at2
  by_cases hlt : n < L.length
  · have HV : Hid (verF L n = L[n].verdict) := by show _ = _; unfold verF; rw [List.getD_eq_getElem?_getD, List.getElem?_eq_getElem hlt]; rfl
    obtain ⟨-, c3, -, -, -, -⟩ := h.row n hlt
    have hlti : ¬ ((n : Int) ≥ L.length) := by omega
    go_enter Tryz.func88, Tryz.ntmps88
    go_wp2
    go_ret
    exact ⟨ret_int (by rw [HV.out]), rfl⟩
  · have HV : Hid (verF L n = 0) := by show _ = _; unfold verF; rw [List.getD_eq_getElem?_getD, List.getElem?_eq_none (by omega)]; rfl
    have hlti : (n : Int) ≥ L.length := by omega
    go_enter Tryz.func88, Tryz.ntmps88
    go_wp2
    go_ret
    exact ⟨ret_int (by rw [HV.out]), rfl⟩

/-- The first step that is unknown. -/
def unkF (steps : List Stp) : Option Nat := (List.range steps.length).find? (fun i => match steps[i]? with | some s => s.kind == 1 | none => false)

set_option maxHeartbeats 800000 in
theorem firstUnknown_any (hd : Hd) (steps : List Stp) (w : World) (ho : Owns w hd (rowP steps)) (hl : steps.length ≤ 1073741824) :
    Calls Tryz.prog 68 #[.slice hd.ao steps.length hd.cap] w fun e w' => e = .returned (.int .i64 (optV (unkF steps))) ∧ w' = w := by
  obtain ⟨AO, HAO⟩ : ∃ AO, Hid (hd.ao = AO) := ⟨_, rfl⟩
  rw [HAO.out]
  go_enter Tryz.func68, Tryz.ntmps68
  go_wp2
  go_loopg [3] steps.length (fun g i wr => ∃ k : Nat, k ≤ steps.length ∧ g = steps.length - k ∧ i = .int .i64 k ∧ Hid (∀ i, i < k → (match steps[i]? with | some s => s.kind == 1 | none => false) = false) ∧ wr = w)
  case atStart => exact ⟨0, by omega, by omega, rfl, fun i hi => by omega, rfl⟩
  case round =>
    obtain ⟨k, hk, hg, rfl, hall, rfl⟩ := hrel
    by_cases hlt : k < steps.length
    · obtain ⟨gp, ep, ecap, ecap2, d0, -⟩ := ho.step k hlt
      obtain rfl : AO = some ⟨gp, 0, none⟩ := HAO.out.symm.trans ep
      clear ep
      have HG : Hid (steps[k]? = some steps[k]) := List.getElem?_eq_getElem hlt
      generalize steps[k] = st at *
      cases hb : (st.kind == 1)
      · have HN : Hid (∀ i, i < k + 1 → (match steps[i]? with | some s => s.kind == 1 | none => false) = false) := by
          intro i hi
          by_cases e : i = k
          · subst e; rw [HG.out]; exact hb
          · exact hall.out i (by omega)
        clear HG hall
        go_wp2
        go_roundg (steps.length - (k + 1))
        case measure => omega
        case rel => exact ⟨k + 1, by omega, rfl, by go_num, HN, rfl⟩
      · have HF : Hid (unkF steps = some k) := range_hit hlt (by rw [HG.out]; exact hb) hall.out
        clear HG hall
        go_wp2
        go_ret
        exact ⟨ret_int (by rw [HF.out]; rfl), rfl⟩
    · have HF : Hid (unkF steps = none) := range_none (fun i hi => hall.out i (by omega))
      clear hall
      go_wp2
      go_ret
      exact ⟨ret_int (by rw [HF.out]; rfl), rfl⟩

/-- Whether what the steps name is verified, or taken for granted, or no assertion. -/
def badV (v : Int) : Bool := v == 2 || v == 3 || v == 4
def restF (L : List Rw) (steps : List Stp) : Bool := steps.all (fun s => !(s.kind == 2) || !(badV (verF L s.number)))
theorem rest_no (L : List Rw) (steps : List Stp) (k : Nat) (hk : k < steps.length) (h1 : (steps[k].kind == 2) = true) (h2 : badV (verF L steps[k].number) = true) : restF L steps = false := by
  cases e : restF L steps
  · rfl
  · unfold restF at e; rw [List.all_eq_true] at e
    have := e _ (List.getElem_mem hk)
    rw [h1, h2] at this; cases this
theorem rest_yes (L : List Rw) (steps : List Stp) (h : ∀ k (hk : k < steps.length), (!(steps[k].kind == 2) || !(badV (verF L steps[k].number))) = true) : restF L steps = true := by
  unfold restF; rw [List.all_eq_true]
  intro x hx
  obtain ⟨k, hk, rfl⟩ := List.getElem_of_mem hx
  exact h k hk

set_option maxHeartbeats 1600000 in
theorem rest_any (b o : Nat) (l : List St) (H : Nat → Hd) (g : Nat) (L : List Rw) (hd : Hd) (steps : List Stp) (w : World) (h : RepAt w b o l H g L) (ho : Owns w hd (rowP steps)) (hsl : steps.length ≤ 1100000) :
    Calls Tryz.prog 70 #[.pointer (some ⟨b, o, none⟩), .slice hd.ao steps.length hd.cap] w fun e w' => e = .returned (.bool (restF L steps)) ∧ w' = w := by
  obtain ⟨AO, HAO⟩ : ∃ AO, Hid (hd.ao = AO) := ⟨_, rfl⟩
  rw [HAO.out]
  go_enter Tryz.func70, Tryz.ntmps70
  go_wp2
  go_loopg [5] steps.length (fun g i wr => ∃ k : Nat, k ≤ steps.length ∧ g = steps.length - k ∧ i = .int .i64 k ∧ Hid (∀ i (hi : i < steps.length), i < k → (!(steps[i].kind == 2) || !(badV (verF L steps[i].number))) = true) ∧ wr = w)
  case atStart => exact ⟨0, by omega, by omega, rfl, fun i _ hi => by omega, rfl⟩
  case round =>
    obtain ⟨k, hk, hg, rfl, hall, rfl⟩ := hrel
    by_cases hlt : k < steps.length
    · obtain ⟨gp, ep, ecap, ecap2, d0, d1, -⟩ := ho.step k hlt
      obtain rfl : AO = some ⟨gp, 0, none⟩ := HAO.out.symm.trans ep
      clear ep
      have HNX : Hid ((!(steps[k].kind == 2) || !(badV (verF L steps[k].number))) = true → ∀ i (hi : i < steps.length), i < k + 1 → (!(steps[i].kind == 2) || !(badV (verF L steps[i].number))) = true) := by
        intro hh i hi hik
        by_cases e : i = k
        · subst e; exact hh
        · exact hall.out i hi (by omega)
      have HNO := (show Hid _ from rest_no L steps k hlt)
      have VE := verdict_any b o steps[k].number l H g L wr h
      clear hall
      generalize steps[k] = st at *
      cases hb : (st.kind == 2)
      · have hb' : (st.kind != 2) = true := by simp [bne, hb]
        have HN := (show Hid _ from HNX.out (by rw [hb]; rfl))
        clear HNX HNO VE
        go_wp2
        go_roundg (steps.length - (k + 1))
        case measure => omega
        case rel => exact ⟨k + 1, by omega, rfl, by go_num, HN.out, rfl⟩
      · have hb' : (st.kind != 2) = false := by simp [bne, hb]
        have HBV : Hid (∀ v, badV v = (v == 2 || v == 3 || v == 4)) := fun _ => rfl
        generalize verF L st.number = V at *
        cases h2 : (V == 2)
        · cases h3 : (V == 3)
          · cases h4 : (V == 4)
            · have HN := (show Hid _ from HNX.out (by rw [HBV.out, h2, h3, h4]; simp))
              clear HNX HNO
              go_wp2_with (go_at_call 88; refine VE.mono ?_; rintro e w3 ⟨rfl, hw3⟩; rw [hw3])
              go_roundg (steps.length - (k + 1))
              case measure => omega
              case rel => exact ⟨k + 1, by omega, rfl, by go_num, HN.out, rfl⟩
            · have HF := (show Hid _ from HNO.out hb (by rw [HBV.out, h2, h3, h4]; rfl))
              clear HNX HNO
              go_wp2_with (go_at_call 88; refine VE.mono ?_; rintro e w3 ⟨rfl, hw3⟩; rw [hw3])
              go_ret
              exact ⟨ret_bool HF.out.symm, rfl⟩
          · have HF := (show Hid _ from HNO.out hb (by rw [HBV.out, h2, h3]; rfl))
            clear HNX HNO
            go_wp2_with (go_at_call 88; refine VE.mono ?_; rintro e w3 ⟨rfl, hw3⟩; rw [hw3])
            go_ret
            exact ⟨ret_bool HF.out.symm, rfl⟩
        · have HF := (show Hid _ from HNO.out hb (by rw [HBV.out, h2]; rfl))
          clear HNX HNO
          go_wp2_with (go_at_call 88; refine VE.mono ?_; rintro e w3 ⟨rfl, hw3⟩; rw [hw3])
          go_ret
          exact ⟨ret_bool HF.out.symm, rfl⟩
    · have HF : Hid (restF L steps = true) := rest_yes L steps (fun i hi => hall.out i hi (by omega))
      clear hall
      go_wp2
      go_ret
      exact ⟨ret_bool HF.out.symm, rfl⟩

end Go.Proofs.YtcipkfhpcbddiaaGreat

/- Package report: the steps of a proof can be played. -/
namespace Go.Proofs.YtcipkfhpcbddiaaGreat
open Go.RowKit

theorem findHF_lt {l : List St} {t : ByteArray} {a n : Nat} (h : findHF l t a = some n) : n < l.length := by
  unfold findHF at h
  have := List.mem_of_find?_eq_some h
  simpa using this

/-- A step that can be played. -/
def GoodS (l : List St) (s : Stp) : Prop := s.number ≤ 1020000 ∧ ((s.kind == 3) = false → s.number < l.length)
theorem norm_good (l : List St) (a : Nat) (fin : Pl) (hl : 0 < l.length) (hl2 : l.length ≤ 10000) (ws : List (ByteArray × Pl)) (acc : List Stp) (h : ∀ s ∈ acc, GoodS l s) (N : Nat) (hN : acc.length ≤ N) :
    (∀ s ∈ (normF l a fin ws acc).1, GoodS l s) ∧ (normF l a fin ws acc).1.length ≤ N + ws.length := by
  induction ws generalizing acc N with
  | nil =>
    rw [normF]
    split
    · exact ⟨by simp, by simp⟩
    · exact ⟨h, by simpa using hN⟩
  | cons x r ih =>
    obtain ⟨t, p⟩ := x
    rw [normF]
    split
    · have := ih (acc ++ [⟨1, 0, p⟩]) (by intro s hs; simp at hs; rcases hs with hs | rfl; exact h s hs; exact ⟨by simp, fun _ => hl⟩) (N + 1) (by simp; omega)
      exact ⟨this.1, by have := this.2; simp; omega⟩
    · split
      · exact ⟨by simp, by simp⟩
      · next n hn =>
        have hlt := findHF_lt hn
        have := ih (acc ++ [⟨2, n, p⟩]) (by intro s hs; simp at hs; rcases hs with hs | rfl; exact h s hs; exact ⟨by simp only; omega, fun _ => hlt⟩) (N + 1) (by simp; omega)
        exact ⟨this.1, by have := this.2; simp; omega⟩

/-- What is read of a compressed proof can be played. -/
structure CmpG (l : List St) (c : Cmp) : Prop where
  names : ∀ n ∈ c.names, n < l.length
  tagged : ∀ n ∈ c.tagged, n ≤ 1020000
  steps : ∀ s ∈ c.steps, GoodS l s
theorem CmpG.letter {l : List St} {c : Cmp} {N : Nat} (g : CmpG l c) (h : CmpOk c N) (hl : 0 < l.length) (hl2 : l.length ≤ 10000) (hN : N ≤ 1020000) (n : Nat) (p : Pl) : CmpG l (takeLetF c n p).2 := by
  have h3 := h.steps
  unfold takeLetF
  split
  · unfold endNumF addStepF
    split
    · next hlt =>
      refine ⟨g.names, g.tagged, ?_⟩
      intro s hs; simp at hs
      rcases hs with hs | rfl
      · exact g.steps s hs
      · have := g.names _ (List.getElem_mem hlt)
        rw [List.getElem?_eq_getElem hlt]
        exact ⟨by simp only [Option.getD_some]; omega, fun _ => this⟩
    · split
      · next hlt =>
        refine ⟨g.names, g.tagged, ?_⟩
        intro s hs; simp at hs
        rcases hs with hs | rfl
        · exact g.steps s hs
        · have := g.tagged _ (List.getElem_mem hlt)
          rw [List.getElem?_eq_getElem hlt]
          exact ⟨this, fun e => by simp at e⟩
      · exact ⟨g.names, g.tagged, g.steps⟩
  · split
    · unfold takeDigF
      split <;> exact ⟨g.names, g.tagged, g.steps⟩
    · split
      · refine ⟨g.names, ?_, g.steps⟩
        intro x hx; simp at hx
        rcases hx with hx | rfl
        · exact g.tagged x hx
        · omega
      · split
        · refine ⟨g.names, g.tagged, ?_⟩
          intro s hs; simp [addStepF] at hs
          rcases hs with hs | rfl
          · exact g.steps s hs
          · exact ⟨by simp, fun _ => hl⟩
        · exact g
theorem wordLet_good {l : List St} (hl : 0 < l.length) (hl2 : l.length ≤ 10000) (t : ByteArray) (p : Pl) (f : Nat) : ∀ (j : Nat) (c : Cmp) (N : Nat), CmpG l c → CmpOk c (N + j) → j ≤ t.size → N + t.size ≤ 1020000 → CmpG l (wordLet t p f j c).2 := by
  induction f with
  | zero => intro j c N g h hj hN; exact g
  | succ f ih =>
    intro j c N g h hj hN
    rw [wordLet]
    split
    · next hlt =>
      have h2 := h.letter (byteAt t j).toNat { p with col := p.col + j }
      have g2 := g.letter h hl hl2 (by omega) (byteAt t j).toNat { p with col := p.col + j }
      split
      · exact ih (j + 1) _ N g2 (by rw [← Nat.add_assoc]; exact h2) (by omega) hN
      · exact g2
    · exact g
theorem wordsLF_good {l : List St} (hl : 0 < l.length) (hl2 : l.length ≤ 10000) (ws : List (ByteArray × Pl)) : ∀ (c : Cmp) (N : Nat), CmpG l c → CmpOk c N → N + sizes ws ≤ 1020000 → CmpG l (wordsLF ws c).2 ∧ CmpOk (wordsLF ws c).2 1020000 := by
  induction ws with
  | nil => intro c N g h hN; exact ⟨g, h.mono (by simp [sizes] at hN; omega)⟩
  | cons x r ih =>
    intro c N g h hN
    obtain ⟨t, p⟩ := x
    have es : sizes ((t, p) :: r) = t.size + sizes r := by simp [sizes]
    rw [es] at hN
    have g1 : CmpG l (wordLF t p c).2 := wordLet_good hl hl2 t p _ 0 c N g h (Nat.zero_le _) (by omega)
    have h1 := wordLF_ok t p h
    rw [wordsLF]
    split
    · exact ih _ (N + t.size) g1 h1 (by omega)
    · exact ⟨g1, h1.mono (by omega)⟩
theorem block_good (l : List St) (a : Nat) (fin : Pl) (ws : List (ByteArray × Pl)) (i : Nat) (ns : List Nat) (h : ∀ n ∈ ns, n < l.length) : ∀ n ∈ (blockL l a fin i ws ns).2, n < l.length := by
  induction ws generalizing i ns with
  | nil => exact h
  | cons x r ih =>
    obtain ⟨t, p⟩ := x
    rw [blockL]
    split
    · exact h
    · split
      · exact h
      · next n hn =>
        split
        · exact h
        · exact ih (i + 1) (ns ++ [n]) (by intro m hm; simp at hm; rcases hm with hm | rfl; exact h m hm; exact findHF_lt hn)

theorem prf_ok (l : List St) (a : Nat) (ok : RecOk l) (ha : a < l.length) (okp : PrfOk l[a]) : StepsOk l (prfF l a l[a]).1 := by
  have hl : 0 < l.length := by omega
  have hp := ok.prfs a ha
  have hsz := okp.size
  have key : (∀ s ∈ (prfF l a l[a]).1, GoodS l s) ∧ (prfF l a l[a]).1.length ≤ 1100000 := by
    unfold prfF
    split
    · unfold compF compR
      have c0 := comp0_ok l a l[a] ok.len hp
      have g0 : CmpG l ⟨(blockL l a l[a].fin 1 (l[a].proof.drop 1) (hypsF l a)).2, [], [], 0, false⟩ := ⟨block_good l a l[a].fin _ 1 _ (fun n hn => hypsF_lt hn), by simp, by simp⟩
      generalize blockL l a l[a].fin 1 (l[a].proof.drop 1) (hypsF l a) = BL at *
      obtain ⟨⟨nx, bf⟩, ns⟩ := BL
      simp only at c0 g0 ⊢
      have key2 : CmpG l (onw bf (l[a].proof.drop nx) ⟨ns, [], [], 0, false⟩).2 ∧ CmpOk (onw bf (l[a].proof.drop nx) ⟨ns, [], [], 0, false⟩).2 1020000 := by
        unfold onw
        split
        · exact wordsLF_good hl ok.len _ _ 20000 g0 c0 (by have := sizes_le l[a].proof nx; omega)
        · exact ⟨g0, c0.mono (by omega)⟩
      generalize onw bf (l[a].proof.drop nx) ⟨ns, [], [], 0, false⟩ = R at *
      unfold compE
      split
      · split
        · split
          · exact ⟨by simp, by simp⟩
          · exact ⟨key2.1.steps, by have := key2.2.steps; simp only; omega⟩
        · exact ⟨by simp, by simp⟩
      · exact ⟨by simp, by simp⟩
    · have := norm_good l a l[a].fin hl ok.len l[a].proof [] (by simp) 0 (by simp)
      exact ⟨this.1, by have := this.2; omega⟩
  exact ⟨key.2, fun s hs => by have := (key.1 s hs).1; omega, fun s hs => (key.1 s hs).2⟩

end Go.Proofs.YtcipkfhpcbddiaaGreat

/- Package report: judge. -/
namespace Go.Proofs.YtcipkfhpcbddiaaGreat
open Go.RowKit

theorem build_row (w : World) (s : ByteArray) : (Instr.build 59 #[(0, .string s)]).run Tryz.prog w = .ok (.agg #[.string s, .int .i64 0, .int .i64 0, .string ⟨#[]⟩, .int .i64 0, .int .i64 0]) w :=
  run_build w 59 _ _ (by kernel_rfl)
theorem field_label (w : World) (k l c u : Int) (lab f : ByteArray) (a1 a2 : Option Addr) (n1 c1 n2 c2 : Nat) :
    (Instr.field 119 (.agg #[.int .i64 k, .string lab, .slice a1 n1 c1, .slice a2 n2 c2, .string f, .int .i64 l, .int .i64 c, .int .i64 u]) 1).run Tryz.prog w = .ok (.string lab) w := by kernel_rfl
attribute [local go_sem] build_row field_label

/-- The row of a theorem. -/
def judgeR (label : ByteArray) (L : List Rw) (steps : List Stp) (f : Flt) : Rw :=
  if (f.1 == 0) = true then
    (match unkF steps with
     | some u => ⟨label, 3, 0, ((steps[u]?).map Stp.at_).getD noPl⟩
     | none => if restF L steps = true then ⟨label, 5, 0, noPl⟩ else ⟨label, 4, 0, noPl⟩)
  else ⟨label, 2, f.1, f.2⟩
def judgeF (l : List St) (n : Nat) (s : St) (L : List Rw) : Rw :=
  judgeR s.label L (prfF l n s).1 (if (unkF (prfF l n s).1).isNone = true ∧ ((prfF l n s).2.1 == 0) = true then playAllF l n s (prfF l n s).1 else (prfF l n s).2)

theorem row_cells {w : World} {r : Nat} {x : Rw} (h : w.heap[r]? = some (.cells (rwV x).toArray 59 (0, 0))) :
    w.cell? ⟨r, 0, none⟩ = some (.string x.label) ∧ w.cell? ⟨r, 1, none⟩ = some (.int .i64 x.verdict) ∧ w.cell? ⟨r, 2, none⟩ = some (.int .i64 x.why) ∧ w.cell? ⟨r, 3, none⟩ = some (.string x.at_.file) ∧ w.cell? ⟨r, 4, none⟩ = some (.int .i64 x.at_.line) ∧ w.cell? ⟨r, 5, none⟩ = some (.int .i64 x.at_.col) := by
  refine ⟨?_, ?_, ?_, ?_, ?_, ?_⟩ <;> (rw [cell_of h]; rfl)

theorem kept6 {w wr : World} {F : Nat} (K : Kept [] w wr) (h1 : w.heap.size ≤ F) (a0 a1 a2 a3 a4 a5 : Value) : Kept [] w ((((((wr.setCell ⟨F, 0, none⟩ a0).setCell ⟨F, 1, none⟩ a1).setCell ⟨F, 2, none⟩ a2).setCell ⟨F, 3, none⟩ a3).setCell ⟨F, 4, none⟩ a4).setCell ⟨F, 5, none⟩ a5) :=
  (((((K.setCell (Or.inr h1) _).setCell (Or.inr h1) _).setCell (Or.inr h1) _).setCell (Or.inr h1) _).setCell (Or.inr h1) _).setCell (Or.inr h1) _

set_option maxHeartbeats 3000000 in
set_option maxRecDepth 100000 in
theorem judge_any (b o a g gh : Nat) (l : List St) (H K : Nat → Hd) (L : List Rw) (w : World) (h : RepAt w b o l H g L) (ok : RecOk l) (ha : a < l.length) (okp : PrfOk l[a]) (hall : AllIs w gh l l.length K) :
    Calls Tryz.prog 54 #[.pointer (some ⟨b, o, none⟩), .int .i64 a, .slice (some ⟨gh, 0, none⟩) l.length l.length] w fun e w' =>
      e = .returned (.agg (rwV (judgeF l a l[a] L)).toArray) ∧ Kept [] w w' := by
  have hbw := h.recd.lt
  have hlen := ok.len
  have sok := prf_ok l a ok ha okp
  obtain ⟨W, hW⟩ : ∃ W, W = w.alloc (.cells #[.string ⟨#[]⟩, .int .i64 0, .int .i64 0, .string ⟨#[]⟩, .int .i64 0, .int .i64 0] 59) := ⟨_, rfl⟩
  have kW : Kept [] w W := by rw [hW]; exact (Kept.refl [] _).alloc _
  have BF : W.heap[w.heap.size]? = some (.cells (rwV zRw).toArray 59 (0, 0)) := by rw [hW]; exact heap_alloc_new _ _
  have HW := (show Hid _ from hW.symm)
  clear hW
  have HJ : Hid (judgeF l a l[a] L = judgeR l[a].label L (prfF l a l[a]).1 (if (unkF (prfF l a l[a]).1).isNone = true ∧ ((prfF l a l[a]).2.1 == 0) = true then playAllF l a l[a] (prfF l a l[a]).1 else (prfF l a l[a]).2)) := rfl
  have RD := fun (w' : World) (k : Kept [] w w') => pRead_any b o a l H w' (h.still k).recd ha ok okp
  have PL := fun (hd : Hd) (w' : World) (k : Kept [] w w') (o' : Owns w' hd (rowP (prfF l a l[a]).1)) => Play_any b o gh a l H K hd (prfF l a l[a]).1 w' (h.still k).recd ok ha (hall.still k) o' sok
  have hslen := sok.len
  have HRD := (show Hid _ from RD)
  have HPL := (show Hid _ from PL)
  clear RD PL sok
  generalize prfF l a l[a] = PF at *
  obtain ⟨steps, pf, pp⟩ := PF
  simp only at HJ HRD HPL hslen
  go_enter Tryz.func54, Tryz.ntmps54
  go_upto_region 1 with fail
  rw [HW.out]
  go_upto_region 2 with (go_at_call 53; refine (statement_any b o a l H _ (by exact (h.still kW).recd) ha).mono ?_; rintro e w1 ⟨rfl, k1⟩; unfold stVal)
  obtain ⟨W2, hW2⟩ : ∃ W2, W2 = w1.alloc (.cells #[.string l[a].label, .int .i64 0, .int .i64 0, .string ⟨#[]⟩, .int .i64 0, .int .i64 0] 59) := ⟨_, rfl⟩
  have k2 : Kept [] W W2 := by rw [hW2]; exact k1.alloc _
  have BR : W2.heap[w1.heap.size]? = some (.cells (rwV ⟨l[a].label, 0, 0, noPl⟩).toArray 59 (0, 0)) := by rw [hW2]; exact heap_alloc_new _ _
  have hs1 : w.heap.size < w1.heap.size := by have := k1.size; have := lt_of_get BF; omega
  rw [← hW2]
  clear hW2
  have K2 := kW.trans k2
  have BF2 := k2.get BF (by simp)
  go_upto_region 3 with (go_at_call 67; refine (HRD.out _ (by exact K2)).mono ?_; rintro e w3 ⟨hd, rfl, hO3, hN3, k3⟩; unfold fltV)
  obtain ⟨W4, hW4⟩ : ∃ W4, W4 = w3.alloc (.cells #[.int .i64 pf, .string pp.file, .int .i64 pp.line, .int .i64 pp.col] 141) := ⟨_, rfl⟩
  have k4 : Kept [] W2 W4 := by rw [hW4]; exact k3.alloc _
  have B9 : W4.heap[w3.heap.size]? = some (.cells (fltC (pf, pp)) 141 (0, 0)) := by rw [hW4]; exact heap_alloc_new _ _
  have hO4 : Owns W4 hd (rowP steps) := by rw [hW4]; exact hO3.moved (fun x hx => ((Kept.refl [] _).alloc _).block x (hO3.lt hx) (by simp))
  rw [← hW4]
  clear hW4
  have hs3 : w1.heap.size < w3.heap.size := by have := k3.size; have := lt_of_get BR; omega
  have K4 := K2.trans k4
  have BR4 := k4.get BR (by simp)
  have BF4 := k4.get BF2 (by simp)
  have FU := firstUnknown_any hd steps W4 hO4 (by omega)
  cases hu : unkF steps with
  | some u =>
    have HU := (show Hid _ from hu)
    rw [hu] at FU
    simp only [optV] at FU
    have hul : u < steps.length := by
      have := List.mem_of_find?_eq_some hu
      simpa using this
    have hui : ¬ ((u : Int) < 0) := by omega
    have hui2 : (u : Int) ≥ 0 := by omega
    have hui3 : (u : Int) < steps.length := by omega
    clear hu
    have KV := K4
    have B9V := B9
    have BRV := BR4
    have BFV := BF4
    obtain ⟨f0, f1, f2, f3⟩ := flt_cells B9V
    obtain ⟨r0, r1, r2, r3, r4, r5⟩ := row_cells BRV
    have yr := free_of BRV
    simp only [noPl] at r0 r1 r2 r3 r4 r5
    cases hp : (pf == 0)
    · have hp' : (pf != 0) = true := by simp [bne, hp]
      have HF : Hid (judgeF l a l[a] L = ⟨l[a].label, 2, pf, pp⟩) := by show _ = _; rw [HJ.out, HU.out, hp]; simp [judgeR, hp]
      clear HJ
      go_upto_region 4 with (go_at_call 68; refine FU.mono ?_; rintro e wu ⟨rfl, hwu⟩; rw [hwu])
      go_upto_region 16 with fail
      obtain ⟨X, hX⟩ : ∃ X, X = ((((W4.setCell ⟨w1.heap.size, 1, none⟩ (.int .i64 2)).setCell ⟨w1.heap.size, 2, none⟩ (.int .i64 pf)).setCell ⟨w1.heap.size, 3, none⟩ (.string pp.file)).setCell ⟨w1.heap.size, 4, none⟩ (.int .i64 pp.line)).setCell ⟨w1.heap.size, 5, none⟩ (.int .i64 pp.col) := ⟨_, rfl⟩
      have BX : X.heap[w1.heap.size]? = some (.cells (rwV ⟨l[a].label, 2, pf, pp⟩).toArray 59 (0, 0)) := by
        rw [hX]
        rw [block_setCell (block_setCell (block_setCell (block_setCell (block_setCell BRV _ _) _ _) _ _) _ _) _ _]; rfl
      have KX : Kept [] w X := by rw [hX]; exact (((((KV.setCell (Or.inr (Nat.le_of_lt hs1)) _).setCell (Or.inr (Nat.le_of_lt hs1)) _).setCell (Or.inr (Nat.le_of_lt hs1)) _).setCell (Or.inr (Nat.le_of_lt hs1)) _).setCell (Or.inr (Nat.le_of_lt hs1)) _)
      have BFX : X.heap[w.heap.size]? = some (.cells (rwV zRw).toArray 59 (0, 0)) := by
        rw [hX]
        rw [Below.heap_setCell _ _ _ _ (by simp; omega)]
        rw [Below.heap_setCell _ _ _ _ (by simp; omega)]
        rw [Below.heap_setCell _ _ _ _ (by simp; omega)]
        rw [Below.heap_setCell _ _ _ _ (by simp; omega)]
        rw [Below.heap_setCell _ _ _ _ (by simp; omega)]
        exact BFV
      rw [← hX]
      clear hX r0 r1 r2 r3 r4 r5 yr
      obtain ⟨r0, r1, r2, r3, r4, r5⟩ := row_cells BX
      obtain ⟨s0, s1, s2, s3, s4, s5⟩ := row_cells BFX
      have ys := free_of BFX
      simp only [zRw, noPl] at r0 r1 r2 r3 r4 r5 s0 s1 s2 s3 s4 s5
      go_wp2
      exact bodyPost_ret (v := .agg (rwV ⟨l[a].label, 2, pf, pp⟩).toArray) (by simp [results, Tryz.results54, go_sem, s0, s1, s2, s3, s4, s5, rwV]) rfl ⟨by rw [HF.out], kept6 KX (Nat.le_refl _) _ _ _ _ _ _⟩
    · have hp' : (pf != 0) = false := by simp [bne, hp]
      obtain ⟨gp, ep, ecap, ecap2, -, -, d2, d3, d4⟩ := hO4.step u hul
      have HF : Hid (judgeF l a l[a] L = ⟨l[a].label, 3, 0, steps[u].at_⟩) := by show _ = _; rw [HJ.out, HU.out, hp]; simp [judgeR, hp, HU.out, hul]
      obtain ⟨ao, cap⟩ := hd
      simp only at ep ecap ecap2
      subst ep
      clear HJ
      generalize steps[u] = st at *
      go_upto_region 4 with (go_at_call 68; refine FU.mono ?_; rintro e wu ⟨rfl, hwu⟩; rw [hwu])
      go_upto_region 16 with fail
      obtain ⟨X, hX⟩ : ∃ X, X = (((W4.setCell ⟨w1.heap.size, 1, none⟩ (.int .i64 3)).setCell ⟨w1.heap.size, 3, none⟩ (.string st.at_.file)).setCell ⟨w1.heap.size, 4, none⟩ (.int .i64 st.at_.line)).setCell ⟨w1.heap.size, 5, none⟩ (.int .i64 st.at_.col) := ⟨_, rfl⟩
      have BX : X.heap[w1.heap.size]? = some (.cells (rwV ⟨l[a].label, 3, 0, st.at_⟩).toArray 59 (0, 0)) := by
        rw [hX]
        rw [block_setCell (block_setCell (block_setCell (block_setCell BRV _ _) _ _) _ _) _ _]; rfl
      have KX : Kept [] w X := by rw [hX]; exact ((((KV.setCell (Or.inr (Nat.le_of_lt hs1)) _).setCell (Or.inr (Nat.le_of_lt hs1)) _).setCell (Or.inr (Nat.le_of_lt hs1)) _).setCell (Or.inr (Nat.le_of_lt hs1)) _)
      have BFX : X.heap[w.heap.size]? = some (.cells (rwV zRw).toArray 59 (0, 0)) := by
        rw [hX]
        rw [Below.heap_setCell _ _ _ _ (by simp; omega)]
        rw [Below.heap_setCell _ _ _ _ (by simp; omega)]
        rw [Below.heap_setCell _ _ _ _ (by simp; omega)]
        rw [Below.heap_setCell _ _ _ _ (by simp; omega)]
        exact BFV
      rw [← hX]
      clear hX r0 r1 r2 r3 r4 r5 yr
      obtain ⟨r0, r1, r2, r3, r4, r5⟩ := row_cells BX
      obtain ⟨s0, s1, s2, s3, s4, s5⟩ := row_cells BFX
      have ys := free_of BFX
      simp only [zRw, noPl] at r0 r1 r2 r3 r4 r5 s0 s1 s2 s3 s4 s5
      go_wp2
      exact bodyPost_ret (v := .agg (rwV ⟨l[a].label, 3, 0, st.at_⟩).toArray) (by simp [results, Tryz.results54, go_sem, s0, s1, s2, s3, s4, s5, rwV]) rfl ⟨by rw [HF.out], kept6 KX (Nat.le_refl _) _ _ _ _ _ _⟩
  | none =>
    have HU := (show Hid _ from hu)
    rw [hu] at FU
    simp only [optV] at FU
    clear hu
    cases hp : (pf == 0)
    · have hp' : (pf != 0) = true := by simp [bne, hp]
      have HF : Hid (judgeF l a l[a] L = ⟨l[a].label, 2, pf, pp⟩) := by show _ = _; rw [HJ.out, HU.out, hp]; simp [judgeR, hp]
      have KV := K4
      have B9V := B9
      have BRV := BR4
      have BFV := BF4
      obtain ⟨f0, f1, f2, f3⟩ := flt_cells B9V
      obtain ⟨r0, r1, r2, r3, r4, r5⟩ := row_cells BRV
      have yr := free_of BRV
      simp only [noPl] at r0 r1 r2 r3 r4 r5
      clear HJ
      go_upto_region 4 with (go_at_call 68; refine FU.mono ?_; rintro e wu ⟨rfl, hwu⟩; rw [hwu])
      go_upto_region 16 with fail
      obtain ⟨X, hX⟩ : ∃ X, X = ((((W4.setCell ⟨w1.heap.size, 1, none⟩ (.int .i64 2)).setCell ⟨w1.heap.size, 2, none⟩ (.int .i64 pf)).setCell ⟨w1.heap.size, 3, none⟩ (.string pp.file)).setCell ⟨w1.heap.size, 4, none⟩ (.int .i64 pp.line)).setCell ⟨w1.heap.size, 5, none⟩ (.int .i64 pp.col) := ⟨_, rfl⟩
      have BX : X.heap[w1.heap.size]? = some (.cells (rwV ⟨l[a].label, 2, pf, pp⟩).toArray 59 (0, 0)) := by
        rw [hX]
        rw [block_setCell (block_setCell (block_setCell (block_setCell (block_setCell BRV _ _) _ _) _ _) _ _) _ _]; rfl
      have KX : Kept [] w X := by rw [hX]; exact (((((KV.setCell (Or.inr (Nat.le_of_lt hs1)) _).setCell (Or.inr (Nat.le_of_lt hs1)) _).setCell (Or.inr (Nat.le_of_lt hs1)) _).setCell (Or.inr (Nat.le_of_lt hs1)) _).setCell (Or.inr (Nat.le_of_lt hs1)) _)
      have BFX : X.heap[w.heap.size]? = some (.cells (rwV zRw).toArray 59 (0, 0)) := by
        rw [hX]
        rw [Below.heap_setCell _ _ _ _ (by simp; omega)]
        rw [Below.heap_setCell _ _ _ _ (by simp; omega)]
        rw [Below.heap_setCell _ _ _ _ (by simp; omega)]
        rw [Below.heap_setCell _ _ _ _ (by simp; omega)]
        rw [Below.heap_setCell _ _ _ _ (by simp; omega)]
        exact BFV
      rw [← hX]
      clear hX r0 r1 r2 r3 r4 r5 yr
      obtain ⟨r0, r1, r2, r3, r4, r5⟩ := row_cells BX
      obtain ⟨s0, s1, s2, s3, s4, s5⟩ := row_cells BFX
      have ys := free_of BFX
      simp only [zRw, noPl] at r0 r1 r2 r3 r4 r5 s0 s1 s2 s3 s4 s5
      go_wp2
      exact bodyPost_ret (v := .agg (rwV ⟨l[a].label, 2, pf, pp⟩).toArray) (by simp [results, Tryz.results54, go_sem, s0, s1, s2, s3, s4, s5, rwV]) rfl ⟨by rw [HF.out], kept6 KX (Nat.le_refl _) _ _ _ _ _ _⟩
    · have HJ2 : Hid (judgeF l a l[a] L = judgeR l[a].label L steps (playAllF l a l[a] steps)) := by show _ = _; rw [HJ.out, HU.out, hp]; simp
      obtain ⟨f0, f1, f2, f3⟩ := flt_cells B9
      clear HJ
      generalize playAllF l a l[a] steps = f at *
      go_upto_region 4 with (go_at_call 68; refine FU.mono ?_; rintro e wu ⟨rfl, hwu⟩; rw [hwu])
      have KV4 := K4
      go_upto_region 7 with (go_at_call 69; refine (HPL.out hd _ (by exact K4) (by exact hO4)).mono ?_; rintro e w5 ⟨rfl, k5⟩; unfold fltV; obtain ⟨t0, t1, t2, t3⟩ := flt_cells (k5.get B9 (by simp)); have yt := free_of (k5.get B9 (by simp)))
      obtain ⟨V, hV⟩ : ∃ V, V = (((w5.setCell ⟨w3.heap.size, 0, none⟩ (.int .i64 f.1)).setCell ⟨w3.heap.size, 1, none⟩ (.string f.2.file)).setCell ⟨w3.heap.size, 2, none⟩ (.int .i64 f.2.line)).setCell ⟨w3.heap.size, 3, none⟩ (.int .i64 f.2.col) := ⟨_, rfl⟩
      have B9V : V.heap[w3.heap.size]? = some (.cells (fltC f) 141 (0, 0)) := by
        rw [hV, block_setCell (block_setCell (block_setCell (block_setCell (k5.get B9 (by simp)) _ _) _ _) _ _)]; rfl
      have k9 : Kept [w3.heap.size] w5 V := by rw [hV]; exact four_in _ _ _ _
      have KV : Kept [] w V := by rw [hV]; exact kept4 (K4.trans k5) (by omega) _ _ _ _
      have BRV := k9.get (k5.get BR4 (by simp)) (by simp; omega)
      have BFV := k9.get (k5.get BF4 (by simp)) (by simp; omega)
      have hOV : Owns V hd (rowP steps) := (hO4.moved (w' := w5) (fun x hx => k5.block x (hO4.lt hx) (by simp))).moved (fun x hx => k9.block x (Nat.lt_of_lt_of_le (hO4.lt hx) k5.size) (by simp; rintro rfl; have := hO3.lt hx; omega))
      rw [← hV]
      clear hV t0 t1 t2 t3 yt
      clear f0 f1 f2 f3
      obtain ⟨f0, f1, f2, f3⟩ := flt_cells B9V
      obtain ⟨r0, r1, r2, r3, r4, r5⟩ := row_cells BRV
      have yr := free_of BRV
      simp only [noPl] at r0 r1 r2 r3 r4 r5
      cases hf : (f.1 == 0)
      · have hf' : (f.1 != 0) = true := by simp [bne, hf]
        have HF : Hid (judgeF l a l[a] L = ⟨l[a].label, 2, f.1, f.2⟩) := by show _ = _; rw [HJ2.out]; simp [judgeR, hf]
        clear HJ2
        go_upto_region 16 with fail
        obtain ⟨X, hX⟩ : ∃ X, X = ((((V.setCell ⟨w1.heap.size, 1, none⟩ (.int .i64 2)).setCell ⟨w1.heap.size, 2, none⟩ (.int .i64 f.1)).setCell ⟨w1.heap.size, 3, none⟩ (.string f.2.file)).setCell ⟨w1.heap.size, 4, none⟩ (.int .i64 f.2.line)).setCell ⟨w1.heap.size, 5, none⟩ (.int .i64 f.2.col) := ⟨_, rfl⟩
        have BX : X.heap[w1.heap.size]? = some (.cells (rwV ⟨l[a].label, 2, f.1, f.2⟩).toArray 59 (0, 0)) := by
          rw [hX]
          rw [block_setCell (block_setCell (block_setCell (block_setCell (block_setCell BRV _ _) _ _) _ _) _ _) _ _]; rfl
        have KX : Kept [] w X := by rw [hX]; exact (((((KV.setCell (Or.inr (Nat.le_of_lt hs1)) _).setCell (Or.inr (Nat.le_of_lt hs1)) _).setCell (Or.inr (Nat.le_of_lt hs1)) _).setCell (Or.inr (Nat.le_of_lt hs1)) _).setCell (Or.inr (Nat.le_of_lt hs1)) _)
        have BFX : X.heap[w.heap.size]? = some (.cells (rwV zRw).toArray 59 (0, 0)) := by
          rw [hX]
          rw [Below.heap_setCell _ _ _ _ (by simp; omega)]
          rw [Below.heap_setCell _ _ _ _ (by simp; omega)]
          rw [Below.heap_setCell _ _ _ _ (by simp; omega)]
          rw [Below.heap_setCell _ _ _ _ (by simp; omega)]
          rw [Below.heap_setCell _ _ _ _ (by simp; omega)]
          exact BFV
        rw [← hX]
        clear hX r0 r1 r2 r3 r4 r5 yr
        obtain ⟨r0, r1, r2, r3, r4, r5⟩ := row_cells BX
        obtain ⟨s0, s1, s2, s3, s4, s5⟩ := row_cells BFX
        have ys := free_of BFX
        simp only [zRw, noPl] at r0 r1 r2 r3 r4 r5 s0 s1 s2 s3 s4 s5
        go_wp2
        exact bodyPost_ret (v := .agg (rwV ⟨l[a].label, 2, f.1, f.2⟩).toArray) (by simp [results, Tryz.results54, go_sem, s0, s1, s2, s3, s4, s5, rwV]) rfl ⟨by rw [HF.out], kept6 KX (Nat.le_refl _) _ _ _ _ _ _⟩
      · have hf' : (f.1 != 0) = false := by simp [bne, hf]
        have RE := rest_any b o l H g L hd steps V (h.still KV) hOV (by omega)
        cases hr : restF L steps
        · have HF : Hid (judgeF l a l[a] L = ⟨l[a].label, 4, 0, noPl⟩) := by show _ = _; rw [HJ2.out]; simp [judgeR, hf, HU.out, hr]
          rw [hr] at RE
          clear HJ2
          go_upto_region 6 with (go_at_call 70; refine RE.mono ?_; rintro e wv ⟨rfl, hwv⟩; rw [hwv])
          go_upto_region 16 with fail
          obtain ⟨X, hX⟩ : ∃ X, X = V.setCell ⟨w1.heap.size, 1, none⟩ (.int .i64 4) := ⟨_, rfl⟩
          have BX : X.heap[w1.heap.size]? = some (.cells (rwV ⟨l[a].label, 4, 0, noPl⟩).toArray 59 (0, 0)) := by
            rw [hX]
            rw [block_setCell BRV _ _]; rfl
          have KX : Kept [] w X := by rw [hX]; exact (KV.setCell (Or.inr (Nat.le_of_lt hs1)) _)
          have BFX : X.heap[w.heap.size]? = some (.cells (rwV zRw).toArray 59 (0, 0)) := by
            rw [hX]
            rw [Below.heap_setCell _ _ _ _ (by simp; omega)]
            exact BFV
          rw [← hX]
          clear hX r0 r1 r2 r3 r4 r5 yr
          obtain ⟨r0, r1, r2, r3, r4, r5⟩ := row_cells BX
          obtain ⟨s0, s1, s2, s3, s4, s5⟩ := row_cells BFX
          have ys := free_of BFX
          simp only [zRw, noPl] at r0 r1 r2 r3 r4 r5 s0 s1 s2 s3 s4 s5
          go_wp2
          exact bodyPost_ret (v := .agg (rwV ⟨l[a].label, 4, 0, noPl⟩).toArray) (by simp [results, Tryz.results54, go_sem, s0, s1, s2, s3, s4, s5, rwV, noPl]) rfl ⟨by rw [HF.out], kept6 KX (Nat.le_refl _) _ _ _ _ _ _⟩
        · have HF : Hid (judgeF l a l[a] L = ⟨l[a].label, 5, 0, noPl⟩) := by show _ = _; rw [HJ2.out]; simp [judgeR, hf, HU.out, hr]
          rw [hr] at RE
          clear HJ2
          go_upto_region 15 with (go_at_call 70; refine RE.mono ?_; rintro e wv ⟨rfl, hwv⟩; rw [hwv])
          go_upto_region 16 with fail
          obtain ⟨X, hX⟩ : ∃ X, X = V.setCell ⟨w1.heap.size, 1, none⟩ (.int .i64 5) := ⟨_, rfl⟩
          have BX : X.heap[w1.heap.size]? = some (.cells (rwV ⟨l[a].label, 5, 0, noPl⟩).toArray 59 (0, 0)) := by
            rw [hX]
            rw [block_setCell BRV _ _]; rfl
          have KX : Kept [] w X := by rw [hX]; exact (KV.setCell (Or.inr (Nat.le_of_lt hs1)) _)
          have BFX : X.heap[w.heap.size]? = some (.cells (rwV zRw).toArray 59 (0, 0)) := by
            rw [hX]
            rw [Below.heap_setCell _ _ _ _ (by simp; omega)]
            exact BFV
          rw [← hX]
          clear hX r0 r1 r2 r3 r4 r5 yr
          obtain ⟨r0, r1, r2, r3, r4, r5⟩ := row_cells BX
          obtain ⟨s0, s1, s2, s3, s4, s5⟩ := row_cells BFX
          have ys := free_of BFX
          simp only [zRw, noPl] at r0 r1 r2 r3 r4 r5 s0 s1 s2 s3 s4 s5
          go_wp2
          exact bodyPost_ret (v := .agg (rwV ⟨l[a].label, 5, 0, noPl⟩).toArray) (by simp [results, Tryz.results54, go_sem, s0, s1, s2, s3, s4, s5, rwV, noPl]) rfl ⟨by rw [HF.out], kept6 KX (Nat.le_refl _) _ _ _ _ _ _⟩

end Go.Proofs.YtcipkfhpcbddiaaGreat

/- Package report: judgeAll. -/
namespace Go.Proofs.YtcipkfhpcbddiaaGreat
open Go.RowKit

theorem build_ax (w : World) (s : ByteArray) : (Instr.build 59 #[(0, .string s), (1, .int .i64 1)]).run Tryz.prog w = .ok (.agg #[.string s, .int .i64 1, .int .i64 0, .string ⟨#[]⟩, .int .i64 0, .int .i64 0]) w :=
  run_build w 59 _ _ (by kernel_rfl)
attribute [local go_sem] build_ax

/-- The rows, one for each statement; of no assertion an empty one. -/
def oneRow (l : List St) (n : Nat) (prev : List Rw) : Rw := match l[n]? with
  | some s => if (s.kind == 4) = true then ⟨s.label, 1, 0, noPl⟩ else if (s.kind == 5) = true then judgeF l n s prev else zRw
  | none => zRw
def rowsUp (l : List St) : Nat → List Rw
  | 0 => []
  | k + 1 => rowsUp l k ++ [oneRow l k (rowsUp l k)]
theorem rowsUp_len (l : List St) (k : Nat) : (rowsUp l k).length = k := by
  induction k with
  | zero => rfl
  | succ k ih => simp [rowsUp, ih]
def padL (l : List St) (k : Nat) : List Rw := rowsUp l k ++ List.replicate (l.length - k) zRw
theorem padL_len (l : List St) (k : Nat) (h : k ≤ l.length) : (padL l k).length = l.length := by simp [padL, rowsUp_len]; omega
theorem padL_next (l : List St) (k : Nat) (h : k < l.length) : padL l (k + 1) = (padL l k).set k (oneRow l k (rowsUp l k)) := by
  unfold padL
  have e : l.length - k = (l.length - (k + 1)) + 1 := by omega
  rw [e, List.replicate_succ, rowsUp]
  have hl := rowsUp_len l k
  rw [List.set_append_right _ _ (by omega), hl, Nat.sub_self, List.set_cons_zero, List.append_assoc]; rfl
theorem padL_end (l : List St) : padL l l.length = rowsUp l l.length := by simp [padL]
theorem pad_same (l : List St) (k : Nat) (h : k < l.length) : (padL l k).set k zRw = padL l k := by
  unfold padL
  have e : l.length - k = (l.length - (k + 1)) + 1 := by omega
  have hl := rowsUp_len l k
  rw [e, List.replicate_succ, List.set_append_right _ _ (by omega), hl, Nat.sub_self, List.set_cons_zero]
theorem verF_pad (A : List Rw) (m n : Nat) : verF (A ++ List.replicate m zRw) n = verF A n := by
  unfold verF
  rw [List.getD_eq_getElem?_getD, List.getD_eq_getElem?_getD]
  by_cases h : n < A.length
  · rw [List.getElem?_append_left h]
  · rw [List.getElem?_append_right (by omega), List.getElem?_eq_none (l := A) (by omega), List.getElem?_replicate]
    split <;> rfl
theorem restF_congr {A B : List Rw} (h : ∀ n, verF A n = verF B n) (steps : List Stp) : restF A steps = restF B steps := by
  unfold restF; simp only [h]
theorem judgeF_congr {A B : List Rw} (h : ∀ n, verF A n = verF B n) (l : List St) (n : Nat) (s : St) : judgeF l n s A = judgeF l n s B := by
  unfold judgeF judgeR; rw [restF_congr h]
theorem judgeF_pad (l : List St) (n : Nat) (s : St) (k : Nat) : judgeF l n s (padL l k) = judgeF l n s (rowsUp l k) := judgeF_congr (fun _ => verF_pad _ _ _) l n s

theorem midR_set (A M B : List Value) (i j : Nat) (v : Value) (hi : i = A.length + j) (hj : j < M.length) : (A ++ (M ++ B)).set i v = A ++ (M.set j v ++ B) := by
  subst hi
  rw [List.set_append_right _ _ (by omega), Nat.add_sub_cancel_left, List.set_append_left _ _ hj]
theorem rws_split (L : List Rw) (k : Nat) (hk : k < L.length) : rwsV L = rwsV (L.take k) ++ (rwV L[k] ++ rwsV (L.drop (k + 1))) := by
  have e : L = L.take k ++ (L[k] :: L.drop (k + 1)) := by rw [← List.drop_eq_getElem_cons hk, List.take_append_drop]
  conv => lhs; rw [e]
  unfold rwsV
  rw [List.flatMap_append, List.flatMap_cons]
theorem rws_set (L : List Rw) (k : Nat) (hk : k < L.length) (r : Rw) :
    (((((((rwsV L).set (k * 6) (.string r.label)).set (k * 6 + 1) (.int .i64 r.verdict)).set (k * 6 + 2) (.int .i64 r.why)).set (k * 6 + 3) (.string r.at_.file)).set (k * 6 + 4) (.int .i64 r.at_.line)).set (k * 6 + 5) (.int .i64 r.at_.col)) = rwsV (L.set k r) := by
  have hA : (rwsV (L.take k)).length = k * 6 := by rw [rwsV_len, List.length_take]; congr 1; omega
  have e2 : rwsV (L.set k r) = rwsV (L.take k) ++ (rwV r ++ rwsV (L.drop (k + 1))) := by
    rw [rws_split (L.set k r) k (by simpa using hk)]
    simp [List.take_set, List.drop_set]
    rw [List.set_eq_of_length_le (by simp; omega)]
  rw [e2, rws_split L k hk, rwV, midR_set _ _ _ _ 0 _ (by omega) (by simp), midR_set _ _ _ _ 1 _ (by omega) (by simp), midR_set _ _ _ _ 2 _ (by omega) (by simp), midR_set _ _ _ _ 3 _ (by omega) (by simp), midR_set _ _ _ _ 4 _ (by omega) (by simp), midR_set _ _ _ _ 5 _ (by omega) (by simp)]
  rfl

theorem Kept.wide {S : List Nat} {w w' : World} (k : Kept [] w w') : Kept S w w' := k.mono (by simp)
/-- A row laid into a report. -/
def setRw (w : World) (g k : Nat) (r : Rw) : World :=
  (((((w.setCell ⟨g, k * 6, none⟩ (.string r.label)).setCell ⟨g, k * 6 + 1, none⟩ (.int .i64 r.verdict)).setCell ⟨g, k * 6 + 2, none⟩ (.int .i64 r.why)).setCell ⟨g, k * 6 + 3, none⟩ (.string r.at_.file)).setCell ⟨g, k * 6 + 4, none⟩ (.int .i64 r.at_.line)).setCell ⟨g, k * 6 + 5, none⟩ (.int .i64 r.at_.col)
theorem setRw_kept (w : World) (g k : Nat) (r : Rw) : Kept [g] w (setRw w g k r) :=
  ((((((Kept.refl [g] w).setCell (Or.inl (by simp)) _).setCell (Or.inl (by simp)) _).setCell (Or.inl (by simp)) _).setCell (Or.inl (by simp)) _).setCell (Or.inl (by simp)) _).setCell (Or.inl (by simp)) _
theorem RepAt.store {w : World} {b o : Nat} {l : List St} {H : Nat → Hd} {g : Nat} {L : List Rw} (h : RepAt w b o l H g L) (hb : b ≠ g) (hg : ∀ x, InH H x → x ≠ g) (k : Nat) (hk : k < L.length) (r : Rw) : RepAt (setRw w g k r) b o l H g (L.set k r) := by
  have kk := setRw_kept w g k r
  obtain ⟨arr, t, h1, h2⟩ := h.cell
  refine ⟨h.recd.kept kk (by simpa using hb) (fun x hx => by simpa using hg x hx), ⟨arr, t, kk.get h1 (by simpa using hb), by rw [List.length_set]; exact h2⟩, ?_⟩
  unfold setRw
  rw [block_setCell (block_setCell (block_setCell (block_setCell (block_setCell (block_setCell h.arr _ _) _ _) _ _) _ _) _ _)]
  simp only [List.setIfInBounds_toArray]
  rw [rws_set L k hk r]

def trimH (l : List St) (H : Nat → Hd) : Nat → Hd := fun i => if i = 6 ∨ (10 ≤ i ∧ i < 10 + 2 * l.length) then H i else ⟨none, 0⟩
theorem trimH_eq (l : List St) (H : Nat → Hd) (j : Nat) (h : j = 6 ∨ (10 ≤ j ∧ j < 10 + 2 * l.length)) : trimH l H j = H j := if_pos h
theorem StsIs.trim {w : World} {l : List St} {H : Nat → Hd} (h : StsIs w l H) : StsIs w l (trimH l H) ∧ ∀ k, InH (trimH l H) k → k < w.heap.size ∧ InH H k := by
  refine ⟨⟨?_, fun i s hs => ?_, fun i s hs => ?_⟩, ?_⟩
  · have e : stsV l (trimH l H) = stsV l H := by
      rw [← stsV_congr2 l H (fun i => if i < 10 + 2 * l.length then H i else ⟨none, 0⟩) (fun j hj => if_pos hj)]
      apply stsV_congr
      intro j hj
      by_cases hl : j < 10 + 2 * l.length
      · simp only [if_pos hl]; exact trimH_eq l H j (Or.inr ⟨hj, hl⟩)
      · simp only [if_neg hl]; exact if_neg (by omega)
    rw [trimH_eq l H 6 (Or.inl rfl)]
    unfold rowT
    rw [e]
    exact h.own
  · have hi : i < l.length := (List.getElem?_eq_some_iff.1 hs).1
    rw [trimH_eq l H (10 + 2 * i) (by omega)]
    exact h.syms i s hs
  · have hi : i < l.length := (List.getElem?_eq_some_iff.1 hs).1
    rw [trimH_eq l H (11 + 2 * i) (by omega)]
    exact h.prfs i s hs
  · rintro k ⟨i, hi⟩
    by_cases hc : i = 6 ∨ (10 ≤ i ∧ i < 10 + 2 * l.length)
    · rw [trimH_eq l H i hc] at hi
      refine ⟨?_, ⟨i, hi⟩⟩
      rcases hc with rfl | ⟨h1, h2⟩
      · exact h.own.lt hi
      · by_cases hp : (i - 10) % 2 = 0
        · have e : i = 10 + 2 * ((i - 10) / 2) := by omega
          rw [e] at hi
          have hl : (i - 10) / 2 < l.length := by omega
          exact (h.syms _ _ (List.getElem?_eq_getElem hl)).lt hi
        · have e : i = 11 + 2 * ((i - 10) / 2) := by omega
          rw [e] at hi
          have hl : (i - 10) / 2 < l.length := by omega
          exact (h.prfs _ _ (List.getElem?_eq_getElem hl)).lt hi
    · have e : trimH l H i = ⟨none, 0⟩ := if_neg hc
      rw [e] at hi
      simp [Hd.blk] at hi

end Go.Proofs.YtcipkfhpcbddiaaGreat

/- Package report: judgeAll, the walk. -/
namespace Go.Proofs.YtcipkfhpcbddiaaGreat
open Go.RowKit
attribute [local go_sem] build_ax

set_option maxHeartbeats 3000000 in
set_option maxRecDepth 100000 in
theorem judgeAll_any (b o g : Nat) (l : List St) (H : Nat → Hd) (w : World) (h : RepAt w b o l H g (padL l 0)) (ok : RecOk l) (okp : ∀ i (hi : i < l.length), PrfOk l[i]) (hb : b ≠ g) (hg : ∀ x, InH H x → x ≠ g) :
    Calls Tryz.prog 46 #[.pointer (some ⟨b, o, none⟩)] w fun e w' => e = .returned (.tuple #[]) ∧ RepAt w' b o l H g (rowsUp l l.length) ∧ Kept [g] w w' := by
  have hbw := h.recd.lt
  have hgw := lt_of_get h.arr
  have hlen := ok.len
  go_enter Tryz.func46, Tryz.ntmps46
  go_wp2_with (go_at_call 52; refine (allHypotheses_any b o l H _ (by exact h.recd) ok).mono ?_; rintro e w1 ⟨gh, K, rfl, A1, hgh, hKn, k1⟩)
  go_loopg [3] l.length (fun gk iv wr => ∃ (k : Nat), k ≤ l.length ∧ gk = l.length - k ∧ iv = .int .i64 k ∧ RepAt wr b o l H g (padL l k) ∧ AllIs wr gh l l.length K ∧ Kept [g] w wr)
  case atStart => exact ⟨0, by omega, by omega, rfl, h.still k1, A1, k1.wide⟩
  case round =>
    obtain ⟨k, hk, hg', rfl, hR, hA, hK⟩ := hrel
    have HPL := (show Hid _ from padL_len l k hk)
    have c2 := hR.at2
    rw [HPL.out] at c2
    by_cases hlt : k < l.length
    · have HON : Hid (oneRow l k (rowsUp l k) = if (l[k].kind == 4) = true then ⟨l[k].label, 1, 0, noPl⟩ else if (l[k].kind == 5) = true then judgeF l k l[k] (padL l k) else zRw) := by
        show _ = _
        unfold oneRow
        rw [List.getElem?_eq_getElem hlt, judgeF_pad]
      have HNX := (show Hid _ from padL_next l k hlt)
      go_upto_region 5 with (go_at_call 53; refine (statement_any b o k l H _ (by exact hR.recd) hlt).mono ?_; rintro e w3 ⟨rfl, k3⟩; unfold stVal)
      obtain ⟨X, hX⟩ : ∃ X, X = w3.alloc (.cells #[.int .i64 l[k].kind, .string l[k].label, .slice (H (10 + 2 * k)).ao l[k].symbols.length (H (10 + 2 * k)).cap, .slice (H (11 + 2 * k)).ao l[k].proof.length (H (11 + 2 * k)).cap, .string l[k].fin.file, .int .i64 l[k].fin.line, .int .i64 l[k].fin.col, .int .i64 l[k].til] 119) := ⟨_, rfl⟩
      have kX : Kept [] wr X := by rw [hX]; exact k3.alloc _
      have BX : X.heap[w3.heap.size]? = some (.cells #[.int .i64 l[k].kind, .string l[k].label, .slice (H (10 + 2 * k)).ao l[k].symbols.length (H (10 + 2 * k)).cap, .slice (H (11 + 2 * k)).ao l[k].proof.length (H (11 + 2 * k)).cap, .string l[k].fin.file, .int .i64 l[k].fin.line, .int .i64 l[k].fin.col, .int .i64 l[k].til] 119 (0, 0)) := by rw [hX]; exact heap_alloc_new _ _
      rw [← hX]
      clear hX
      have m0 : X.cell? ⟨w3.heap.size, 0, none⟩ = some (.int .i64 l[k].kind) := by rw [cell_of BX]; rfl
      have m1 : X.cell? ⟨w3.heap.size, 1, none⟩ = some (.string l[k].label) := by rw [cell_of BX]; rfl
      have RX := hR.still kX
      have AX := hA.still kX
      have KX := hK.trans kX.wide
      have hgX := lt_of_get RX.arr
      have hbX := RX.recd.lt
      have hs3 : wr.heap.size ≤ w3.heap.size := k3.size
      have hgwr := lt_of_get hR.arr
      have hbwr := hR.recd.lt
      have hgh2 : gh ≠ g := by omega
      have hKn2 : ∀ n x, (K n).blk = some x → x ∉ [g] := fun n x hx => by have := hKn n x hx; simp; omega
      have c2X := RX.at2
      rw [HPL.out] at c2X
      have hkp : k < (padL l k).length := by rw [HPL.out]; exact hlt
      obtain ⟨g0, g1, g2, g3, g4, g5⟩ := RX.row k hkp
      have yg := free_of RX.arr
      have hki : (k : Int) < l.length := by omega
      have hne1 : w3.heap.size ≠ g := by omega
      have hne2 : g ≠ w3.heap.size := by omega
      have hne3 : g ≠ b := fun e => hb e.symm
      clear c2
      generalize (padL l k)[k] = old at *
      cases h4 : (l[k].kind == 4)
      · cases h5 : (l[k].kind == 5)
        · have HE : Hid (padL l (k + 1) = padL l k) := by
            show _ = _
            rw [HNX.out, HON.out, h4, h5]
            simp only [Bool.false_eq_true, if_false]
            exact pad_same l k hlt
          clear HON HNX
          go_wp2
          go_roundg (l.length - (k + 1))
          case measure => omega
          case rel => exact ⟨k + 1, by omega, rfl, by go_num, by rw [HE.out]; exact RX, AX, KX⟩
        · have HE : Hid (padL l (k + 1) = (padL l k).set k (judgeF l k l[k] (padL l k))) := by show _ = _; rw [HNX.out, HON.out, h4, h5]; rfl
          have JA := fun (w' : World) (q : Kept [] X w') => judge_any b o k g gh l H K (padL l k) w' (RX.still q) ok hlt (okp k hlt) (AX.still q)
          have HJA := (show Hid _ from JA)
          have HCX : Hid (∀ w', Kept [] X w' → w'.cell? ⟨b, o + 2, none⟩ = some (.slice (some ⟨g, 0, none⟩) l.length l.length)) := by
            intro w' q; have := (RX.still q).at2; rw [HPL.out] at this; exact this
          have HRW : Hid (∀ w', Kept [] X w' → w'.cell? ⟨g, k * 6, none⟩ = some (.string old.label) ∧ w'.cell? ⟨g, k * 6 + 1, none⟩ = some (.int .i64 old.verdict) ∧ w'.cell? ⟨g, k * 6 + 2, none⟩ = some (.int .i64 old.why) ∧ w'.cell? ⟨g, k * 6 + 3, none⟩ = some (.string old.at_.file) ∧ w'.cell? ⟨g, k * 6 + 4, none⟩ = some (.int .i64 old.at_.line) ∧ w'.cell? ⟨g, k * 6 + 5, none⟩ = some (.int .i64 old.at_.col) ∧ ∀ n, w'.frozen? ⟨g, n, none⟩ = false) := by
            intro w' q
            have q2 := q.get RX.arr (by simp)
            refine ⟨?_, ?_, ?_, ?_, ?_, ?_, fun n => free_of q2 n⟩
            · rw [cell_of q2, ← cell_of RX.arr]; exact g0
            · rw [cell_of q2, ← cell_of RX.arr]; exact g1
            · rw [cell_of q2, ← cell_of RX.arr]; exact g2
            · rw [cell_of q2, ← cell_of RX.arr]; exact g3
            · rw [cell_of q2, ← cell_of RX.arr]; exact g4
            · rw [cell_of q2, ← cell_of RX.arr]; exact g5
          unfold rwV at HJA
          clear HON HNX JA g0 g1 g2 g3 g4 g5 yg
          generalize judgeF l k l[k] (padL l k) = r at *
          go_upto_region 8 with fail
          go_region_held3 (fun w' => w'.cell? ⟨b, o + 2, none⟩ = some (.slice (some ⟨g, 0, none⟩) l.length l.length)) (go_keep) (first | (go_at_call 54; refine (HJA.out _ (by exact (Kept.refl [] X).drew)).mono ?_; rintro e w5 ⟨rfl, k5⟩; have x0 := HCX.out w5 ((Kept.refl [] X).drew.trans k5); obtain ⟨g0, g1, g2, g3, g4, g5, yg⟩ := HRW.out w5 ((Kept.refl [] X).drew.trans k5)))
          all_goals
            have kk := ((Kept.refl [] X).drew.trans k5)
            have ST := (RX.still kk).store hb hg k hkp r
            have SK := setRw_kept w5 g k r
            have AK := (AX.still kk).kept SK (by simpa using hgh2) hKn2
            have KK := (KX.trans kk.wide).trans SK
            rw [← HE.out] at ST
            unfold setRw at ST SK AK KK
            clear m0 m1 c2X g0 g1 g2 g3 g4 g5 yg x0
            go_wp2
            go_roundg (l.length - (k + 1))
            case measure => omega
            case rel => exact ⟨k + 1, by omega, rfl, by go_num, ST, AK, KK⟩
      · have h5 : (l[k].kind == 5) = false := by have := eq_of_beq h4; rw [this]; rfl
        have HE : Hid (padL l (k + 1) = (padL l k).set k ⟨l[k].label, 1, 0, noPl⟩) := by show _ = _; rw [HNX.out, HON.out, h4]; rfl
        clear HON HNX
        go_upto_region 6 with fail
        go_region
        all_goals
          have ST := RX.store hb hg k hkp ⟨l[k].label, 1, 0, noPl⟩
          have SK := setRw_kept X g k ⟨l[k].label, 1, 0, noPl⟩
          have AK := AX.kept SK (by simpa using hgh2) hKn2
          have KK := KX.trans SK
          rw [← HE.out] at ST
          unfold setRw at ST SK AK KK
          simp only [noPl] at ST AK KK
          clear m1 c2X g0 g1 g2 g3 g4 g5 yg SK
          go_wp2
          go_roundg (l.length - (k + 1))
          case measure => omega
          case rel => exact ⟨k + 1, by omega, rfl, by go_num, ST.still (Kept.refl [] _).drew, AK.still (Kept.refl [] _).drew, KK.drew⟩
    · have e : k = l.length := by omega
      subst e
      rw [padL_end] at hR
      go_wp2
      go_end0
      exact ⟨rfl, hR, hK⟩

end Go.Proofs.YtcipkfhpcbddiaaGreat

/- The rows look only at what stands ahead: what follows turns none of them. No walk. -/
namespace Go.Proofs.YtcipkfhpcbddiaaGreat
open Go.RowKit

theorem held_fore (l m : List St) (n a : Nat) (h : a ≤ l.length) : heldF (l ++ m) n a = heldF l n a := by
  unfold heldF
  rcases Nat.lt_or_ge n l.length with hn | hn
  · rw [List.getElem?_append_left hn]
  · rw [List.getElem?_eq_none (l := l) hn]
    cases e : (l ++ m)[n]? with
    | none => rfl
    | some s =>
      have hd : decide (n < a) = false := decide_eq_false (by omega)
      show (decide (n < a) && _) = false
      rw [hd]; rfl
theorem held_far (l : List St) (n a : Nat) (h : a ≤ n) : heldF l n a = false := by
  unfold heldF
  cases e : l[n]? with
  | none => rfl
  | some s =>
    have hd : decide (n < a) = false := decide_eq_false (by omega)
    show (decide (n < a) && _) = false
    rw [hd]; rfl
theorem filter_fore (N k : Nat) (p q : Nat → Bool) (h : ∀ n, n < N → p n = q n) (h2 : ∀ n, N ≤ n → p n = false) : (List.range (N + k)).filter p = (List.range N).filter q := by
  induction k with
  | zero => exact List.filter_congr (fun x hx => h x (by simpa using hx))
  | succ k ih =>
    rw [← Nat.add_assoc, List.range_succ, List.filter_append, ih]
    simp [h2 (N + k) (by omega)]
theorem fm_congr {α : Type} (l : List Nat) (p q : Nat → Option α) (h : ∀ x ∈ l, p x = q x) : l.filterMap p = l.filterMap q := by
  induction l with
  | nil => rfl
  | cons x r ih => rw [List.filterMap_cons, List.filterMap_cons, h x (by simp), ih (fun y hy => h y (List.mem_cons_of_mem _ hy))]
theorem filterMap_fore {α : Type} (N k : Nat) (p q : Nat → Option α) (h : ∀ n, n < N → p n = q n) (h2 : ∀ n, N ≤ n → p n = none) : (List.range (N + k)).filterMap p = (List.range N).filterMap q := by
  induction k with
  | zero => exact fm_congr _ _ _ (fun x hx => h x (by simpa using hx))
  | succ k ih =>
    rw [← Nat.add_assoc, List.range_succ, List.filterMap_append, ih]
    simp [h2 (N + k) (by omega)]
theorem find_fore (N k : Nat) (p q : Nat → Bool) (h : ∀ n, n < N → p n = q n) (h2 : ∀ n, N ≤ n → p n = false) : (List.range (N + k)).find? p = (List.range N).find? q := by
  rw [← List.head?_filter, ← List.head?_filter, filter_fore N k p q h h2]

theorem findH_fore (l m : List St) (t : ByteArray) (a : Nat) (h : a ≤ l.length) : findHF (l ++ m) t a = findHF l t a := by
  unfold findHF
  rw [List.length_append]
  refine find_fore _ _ _ _ (fun n hn => ?_) (fun n hn => ?_)
  · unfold namesF; rw [List.getElem?_append_left hn, held_fore l m n a h]
  · unfold namesF
    cases e : (l ++ m)[n]? with
    | none => rfl
    | some s => simp only; rw [held_far _ n a (by omega), Bool.and_false]
theorem syms_fore (l m : List St) (n : Nat) (h : n < l.length) : symsAt (l ++ m) n = symsAt l n := by
  unfold symsAt; rw [List.getElem?_append_left h]
theorem symsOf_fore (l m : List St) (a : Nat) (h : a < l.length) : symsOfF (l ++ m) a = symsOfF l a := by
  unfold symsOfF symsTo
  rw [List.length_append, filter_fore l.length m.length (essF (l ++ m) a) (essF l a), syms_fore l m a h]
  · congr 1
    rw [List.flatMap_def, List.flatMap_def]
    congr 1
    refine List.map_congr_left (fun x hx => syms_fore l m x ?_)
    have := (List.mem_filter.1 hx).1
    simpa using this
  · intro n hn; unfold essF; rw [List.getElem?_append_left hn, held_fore l m n a (by omega)]
  · intro n hn
    unfold essF
    cases e : (l ++ m)[n]? with
    | none => rfl
    | some s => simp only; rw [held_far _ n a (by omega), Bool.and_false]
theorem hyps_fore (l m : List St) (a : Nat) (h : a < l.length) : hypsF (l ++ m) a = hypsF l a := by
  unfold hypsF hypsTo
  rw [List.length_append, symsOf_fore l m a h]
  refine filter_fore _ _ _ _ (fun n hn => ?_) (fun n hn => ?_)
  · unfold mandAt; rw [List.getElem?_append_left hn, held_fore l m n a (by omega)]
  · unfold mandAt
    cases e : (l ++ m)[n]? with
    | none => rfl
    | some s => simp only; rw [held_far _ n a (by omega), Bool.false_and]
theorem marksTo_fore (l m : List St) (a : Nat) (h : a < l.length) (vs : List ByteArray) (k : Nat) (hk : k ≤ l.length) : marksTo (l ++ m) a vs k = marksTo l a vs k := by
  induction k with
  | zero => rfl
  | succ k ih =>
    have e : disjF (l ++ m) a k = disjF l a k := by unfold disjF; rw [List.getElem?_append_left (by omega), held_fore l m k a (by omega)]
    rw [marksTo, marksTo, e, ih (by omega), syms_fore l m k (by omega)]
theorem marks_fore (l m : List St) (a : Nat) (h : a < l.length) (vs : List ByteArray) : marksF (l ++ m) a vs = marksF l a vs := by
  unfold marksF
  rw [List.length_append]
  generalize m.length = k
  induction k with
  | zero => exact marksTo_fore l m a h vs l.length (Nat.le_refl _)
  | succ k ih =>
    rw [← Nat.add_assoc, marksTo, if_neg, ih]
    have : disjF (l ++ m) a (l.length + k) = false := by
      unfold disjF
      cases e : (l ++ m)[l.length + k]? with
      | none => rfl
      | some s => simp only; rw [held_far _ _ a (by omega), Bool.and_false]
    rw [this]; simp
theorem av_fore (l m : List St) (a : Nat) (h : a < l.length) : avF (l ++ m) a = avF l a := by
  unfold avF avTo
  rw [List.length_append]
  refine filterMap_fore _ _ _ _ (fun n hn => ?_) (fun n hn => ?_)
  · unfold avOne; rw [List.getElem?_append_left hn, held_fore l m n a (by omega)]
  · unfold avOne
    cases e : (l ++ m)[n]? with
    | none => rfl
    | some s => simp only; rw [held_far _ n a (by omega)]; simp
theorem block_fore (l m : List St) (a : Nat) (h : a < l.length) (fin : Pl) (ws : List (ByteArray × Pl)) : ∀ i ns, blockL (l ++ m) a fin i ws ns = blockL l a fin i ws ns := by
  induction ws with
  | nil => intro i ns; rfl
  | cons x r ih =>
    intro i ns
    obtain ⟨t, p⟩ := x
    rw [blockL, blockL, findH_fore l m t a (by omega)]
    simp only [ih]
theorem norm_fore (l m : List St) (a : Nat) (h : a < l.length) (fin : Pl) (ws : List (ByteArray × Pl)) : ∀ acc, normF (l ++ m) a fin ws acc = normF l a fin ws acc := by
  induction ws with
  | nil => intro acc; rfl
  | cons x r ih =>
    intro acc
    obtain ⟨t, p⟩ := x
    rw [normF, normF, findH_fore l m t a (by omega)]
    simp only [ih]
theorem prf_fore (l m : List St) (a : Nat) (h : a < l.length) (s : St) : prfF (l ++ m) a s = prfF l a s := by
  unfold prfF compF compR
  rw [norm_fore l m a h, hyps_fore l m a h, block_fore l m a h]

theorem getD_fore (l m : List St) (n : Nat) (h : n < l.length) : (l ++ m).getD n stD = l.getD n stD := by
  rw [List.getD_eq_getElem?_getD, List.getD_eq_getElem?_getD, List.getElem?_append_left h]
theorem fitAll_fore (l m : List St) (hs : List Nat) (h : ∀ x ∈ hs, x < l.length) : ∀ es S, fitAll (l ++ m) hs es S = fitAll l hs es S := by
  induction hs with
  | nil => intro es S; simp [fitAll]
  | cons x r ih =>
    intro es S
    cases es with
    | nil => simp [fitAll]
    | cons e es =>
      rw [fitAll, fitAll, getD_fore l m x (h x (by simp))]
      simp only [ih (fun y hy => h y (by simp [hy]))]
theorem keep_fore (l m : List St) (n : Nat) (h : n < l.length) (S : Sbs) (vs : List ByteArray) (ms : List Bool) : keepF (l ++ m) n S vs ms = keepF l n S vs ms := by
  unfold keepF keepP
  rw [marks_fore l m n h]
theorem apply_fore (l m : List St) (n : Nat) (h : n < l.length) (vs : List ByteArray) (ms : List Bool) (th : List (List ByteArray)) : applyF (l ++ m) n vs ms th = applyF l n vs ms th := by
  unfold applyF applyR
  rw [hyps_fore l m n h, getD_fore l m n h, fitAll_fore l m _ (fun x hx => hypsF_lt hx)]
  simp only [keep_fore l m n h]
theorem show_fore (l m : List St) (vs : List ByteArray) (ms : List Bool) (sh th : List (List ByteArray)) (s : Stp) (h : (s.kind == 3) = false → s.number < l.length) : showF (l ++ m) vs ms sh th s = showF l vs ms sh th s := by
  unfold showF
  cases hk : (s.kind == 3) with
  | true => rfl
  | false =>
    have hn := h hk
    have e : isAt (l ++ m) s.number = isAt l s.number := by unfold isAt; rw [List.getElem?_append_left hn]
    rw [e, apply_fore l m _ hn, hyps_fore l m _ hn, getD_fore l m _ hn]
theorem playAll_fore (l m : List St) (vs : List ByteArray) (ms : List Bool) (fin : Pl) (goal : List ByteArray) (steps : List Stp) (h : ∀ s ∈ steps, (s.kind == 3) = false → s.number < l.length) :
    ∀ S, playAll (l ++ m) vs ms fin goal steps S = playAll l vs ms fin goal steps S := by
  induction steps with
  | nil => intro S; rfl
  | cons s r ih =>
    intro S
    have e : playF (l ++ m) vs ms S s = playF l vs ms S s := by unfold playF; rw [show_fore l m vs ms S.1 S.2 s (h s (by simp))]
    rw [playAll, playAll, e]
    simp only [ih (fun y hy => h y (by simp [hy]))]
theorem judge_fore (l m : List St) (n : Nat) (ok : RecOk l) (hn : n < l.length) (okp : PrfOk l[n]) (L : List Rw) : judgeF (l ++ m) n l[n] L = judgeF l n l[n] L := by
  unfold judgeF playAllF
  rw [prf_fore l m n hn, av_fore l m n hn, marks_fore l m n hn, playAll_fore l m _ _ _ _ _ (prf_ok l n ok hn okp).named]
theorem one_fore (l m : List St) (n : Nat) (ok : RecOk l) (hn : n < l.length) (okp : PrfOk l[n]) (L : List Rw) : oneRow (l ++ m) n L = oneRow l n L := by
  unfold oneRow
  rw [List.getElem?_append_left hn, List.getElem?_eq_getElem hn]
  simp only [judge_fore l m n ok hn okp]
theorem up_fore (l m : List St) (ok : RecOk l) (okp : ∀ i (hi : i < l.length), PrfOk l[i]) (k : Nat) (hk : k ≤ l.length) : rowsUp (l ++ m) k = rowsUp l k := by
  induction k with
  | zero => rfl
  | succ k ih => rw [rowsUp, rowsUp, ih (by omega), one_fore l m k ok (by omega) (okp k (by omega))]

/-- The rows that are told: those of assertions. -/
def rowsF (l : List St) : List Rw := (rowsUp l l.length).filter (fun r => !(r.verdict == 0))
theorem rows_fore (l m : List St) (ok : RecOk l) (okp : ∀ i (hi : i < l.length), PrfOk l[i]) : ∃ t, rowsF (l ++ m) = rowsF l ++ t := by
  have h : ∀ k, ∃ t, rowsUp (l ++ m) (l.length + k) = rowsUp l l.length ++ t := by
    intro k
    induction k with
    | zero => exact ⟨[], by rw [Nat.add_zero, up_fore l m ok okp _ (Nat.le_refl _)]; simp⟩
    | succ k ih =>
      obtain ⟨t, ht⟩ := ih
      exact ⟨_, by rw [← Nat.add_assoc, rowsUp]; conv => lhs; arg 1; rw [ht]
                   rw [List.append_assoc]⟩
  obtain ⟨t, ht⟩ := h m.length
  refine ⟨t.filter (fun r => !(r.verdict == 0)), ?_⟩
  unfold rowsF
  rw [List.length_append, ht, List.filter_append]

end Go.Proofs.YtcipkfhpcbddiaaGreat
