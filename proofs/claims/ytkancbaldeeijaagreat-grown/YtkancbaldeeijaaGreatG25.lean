/- Our texts: Pl10, Pl11. -/
import Derived.Test.YtkancbaldeeijaaGreatG24
/- Package player: show. -/
namespace Go.Proofs.YtkancbaldeeijaaGreat
open Go.RowKit

/-- What a step shows: why it may not; the expression; what is there then. -/
def showF (l : List St) (vs : List ByteArray) (ms : List Bool) (sh th : List (List ByteArray)) (s : Stp) : (Int × List ByteArray) × List (List ByteArray) :=
  if (s.kind == 3) = true then (if s.number < sh.length then ((0, sh.getD s.number []), th) else ((5, []), th))
  else if isAt l s.number = true then (applyF l s.number vs ms th, th.take (th.length - (hypsF l s.number).length))
  else ((0, (l.getD s.number stD).symbols), th)

set_option maxHeartbeats 3000000 in
set_option maxRecDepth 100000 in
theorem show_any (w0 w : World) (b rb ro g tb : Nat) (s : Stp) (l : List St) (HR K : Nat → Hd) (vs : List ByteArray) (ms : List Bool) (hv hm : Hd) (sh th : List Ex) (H : Nat → Hd) (E : PEnv w0 rb ro g tb l HR K vs ms hv hm) (P : Plays w0 w b rb ro g l.length tb sh th H)
    (hn : (s.kind == 3) = false → s.number < l.length) (hsn : s.number ≤ 2000000) (hth : th.length ≤ 2000000) :
    Calls Tryz.prog 91 #[.pointer (some ⟨b, 0, none⟩), .agg #[.int .i64 s.kind, .int .i64 s.number, .string s.at_.file, .int .i64 s.at_.line, .int .i64 s.at_.col]] w fun e w' => ∃ (th' : List Ex) (ex : Ex),
      e = .returned (.tuple #[.slice ex.hd.ao ex.xs.length ex.hd.cap, .int .i64 (showF l vs ms (sh.map Ex.xs) (th.map Ex.xs) s).1.1]) ∧ ex.xs = (showF l vs ms (sh.map Ex.xs) (th.map Ex.xs) s).1.2 ∧ Plays w0 w' b rb ro g l.length tb sh th' H ∧ FarV w' b H ex.hd ex.xs ∧
      (((showF l vs ms (sh.map Ex.xs) (th.map Ex.xs) s).1.1 == 0) = true → th'.map Ex.xs = (showF l vs ms (sh.map Ex.xs) (th.map Ex.xs) s).2) ∧ th'.length ≤ th.length := by
  obtain ⟨W, hW⟩ : ∃ W, W = w.alloc (.cells #[.int .i64 s.kind, .int .i64 s.number, .string s.at_.file, .int .i64 s.at_.line, .int .i64 s.at_.col] 121) := ⟨_, rfl⟩
  have kW : Kept [] w W := by rw [hW]; exact (Kept.refl [] _).alloc _
  have B : W.heap[w.heap.size]? = some (.cells #[.int .i64 s.kind, .int .i64 s.number, .string s.at_.file, .int .i64 s.at_.line, .int .i64 s.at_.col] 121 (0, 0)) := by rw [hW]; exact heap_alloc_new _ _
  have HW := (show Hid _ from hW.symm)
  have u0 : W.cell? ⟨w.heap.size, 0, none⟩ = some (.int .i64 s.kind) := by rw [cell_of B]; rfl
  have u1 : W.cell? ⟨w.heap.size, 1, none⟩ = some (.int .i64 s.number) := by rw [cell_of B]; rfl
  have PW := P.still kW
  have EW := E.still PW.kept
  obtain ⟨p0, p1, p2⟩ := PW.ply.ctx.cells
  obtain ⟨p3, p4⟩ := PW.ply.cells
  have hbW := PW.ply.bag.lt
  have hwW := lt_of_get B
  clear hW
  cases hk : (s.kind == 3)
  · have hn' := hn hk
    have HS : Hid (showF l vs ms (sh.map Ex.xs) (th.map Ex.xs) s = if isAt l s.number = true then (applyF l s.number vs ms (th.map Ex.xs), (th.map Ex.xs).take (th.length - (hypsF l s.number).length)) else ((0, l[s.number].symbols), th.map Ex.xs)) := by
      show _ = _
      unfold showF
      rw [hk, List.length_map, List.length_map, getD_st l _ hn']; rfl
    have HC : Hid (∀ w', Kept [] W w' → w'.cell? ⟨b, 0, none⟩ = some (.pointer (some ⟨rb, ro, none⟩)) ∧ w'.cell? ⟨w.heap.size, 1, none⟩ = some (.int .i64 s.number)) := by
      intro w' k
      refine ⟨(PW.still k).ply.ctx.cells.1, ?_⟩
      rw [cell_of (k.get B (by simp))]; rfl
    have HST := (show Hid _ from fun (w3 : World) (k3 : Kept [] W w3) => statement_any rb ro s.number l HR w3 (EW.still k3).recd hn')
    have HZ : Hid (∀ w3, Kept [] (W.alloc (.cells #[.int .i64 0, .string ⟨#[]⟩, .slice none 0 0, .slice none 0 0, .string ⟨#[]⟩, .int .i64 0, .int .i64 0, .int .i64 0] 100)).drew w3 → w3.cell? ⟨W.heap.size, 0, none⟩ = some (.int .i64 0) ∧ w3.cell? ⟨W.heap.size, 1, none⟩ = some (.string ⟨#[]⟩) ∧ w3.cell? ⟨W.heap.size, 2, none⟩ = some (.slice none 0 0) ∧ w3.cell? ⟨W.heap.size, 3, none⟩ = some (.slice none 0 0) ∧ w3.cell? ⟨W.heap.size, 4, none⟩ = some (.string ⟨#[]⟩) ∧ w3.cell? ⟨W.heap.size, 5, none⟩ = some (.int .i64 0) ∧ w3.cell? ⟨W.heap.size, 6, none⟩ = some (.int .i64 0) ∧ w3.cell? ⟨W.heap.size, 7, none⟩ = some (.int .i64 0) ∧ ∀ n, w3.frozen? ⟨W.heap.size, n, none⟩ = false) := by
      intro w3 k
      have q := k.get (show (W.alloc (.cells #[.int .i64 0, .string ⟨#[]⟩, .slice none 0 0, .slice none 0 0, .string ⟨#[]⟩, .int .i64 0, .int .i64 0, .int .i64 0] 100)).drew.heap[W.heap.size]? = _ from heap_alloc_new _ _) (by simp)
      refine ⟨?_, ?_, ?_, ?_, ?_, ?_, ?_, ?_, fun n => free_of q n⟩ <;> (rw [cell_of q]; rfl)
    have hne1 : W.heap.size ≠ b := by omega
    have hne2 : b ≠ W.heap.size := by omega
    have hne3 : W.heap.size ≠ w.heap.size := by omega
    have hne4 : w.heap.size ≠ W.heap.size := by omega
    clear p1 p2 p3 p4
    go_enter Tryz.func91, Tryz.ntmps91
    go_upto_region 1 with fail
    rw [HW.out]
    go_upto_region 5 with fail
    go_region_held3 (fun w' => w'.cell? ⟨b, 0, none⟩ = some (.pointer (some ⟨rb, ro, none⟩)) ∧ w'.cell? ⟨w.heap.size, 1, none⟩ = some (.int .i64 s.number)) (go_keep) (first | (go_at_call 43; refine (HST.out _ (by exact (Kept.refl [] W).drew)).mono ?_; rintro e w3 ⟨rfl, k3⟩; obtain ⟨x0, x1⟩ := HC.out w3 ((Kept.refl [] _).drew.trans k3); unfold stVal) | (go_at_call 43; refine (HST.out _ (by exact ((Kept.refl [] W).alloc _).drew)).mono ?_; rintro e w3 ⟨rfl, k3⟩; obtain ⟨x0, x1⟩ := HC.out w3 (((Kept.refl [] W).alloc _).drew.trans k3); obtain ⟨q0, q1, q2, q3, q4, q5, q6, q7, qf⟩ := HZ.out w3 k3; unfold stVal))
    · obtain ⟨X, hX⟩ : ∃ X, X = w3.alloc (.cells #[.int .i64 l[s.number].kind, .string l[s.number].label, .slice (HR (10 + 2 * s.number)).ao l[s.number].symbols.length (HR (10 + 2 * s.number)).cap, .slice (HR (11 + 2 * s.number)).ao l[s.number].proof.length (HR (11 + 2 * s.number)).cap, .string l[s.number].fin.file, .int .i64 l[s.number].fin.line, .int .i64 l[s.number].fin.col, .int .i64 l[s.number].til] 100) := ⟨_, rfl⟩
      have kX : Kept [] W X := by rw [hX]; exact ((Kept.refl [] _).drew.trans k3).alloc _
      have BX : X.heap[w3.heap.size]? = some (.cells #[.int .i64 l[s.number].kind, .string l[s.number].label, .slice (HR (10 + 2 * s.number)).ao l[s.number].symbols.length (HR (10 + 2 * s.number)).cap, .slice (HR (11 + 2 * s.number)).ao l[s.number].proof.length (HR (11 + 2 * s.number)).cap, .string l[s.number].fin.file, .int .i64 l[s.number].fin.line, .int .i64 l[s.number].fin.col, .int .i64 l[s.number].til] 100 (0, 0)) := by rw [hX]; exact heap_alloc_new _ _
      rw [← hX]
      clear hX x0 x1 u0 u1 p0
      have m0 : X.cell? ⟨w3.heap.size, 0, none⟩ = some (.int .i64 l[s.number].kind) := by rw [cell_of BX]; rfl
      have m1 : X.cell? ⟨w3.heap.size, 1, none⟩ = some (.string l[s.number].label) := by rw [cell_of BX]; rfl
      have m2 : X.cell? ⟨w3.heap.size, 2, none⟩ = some (.slice (HR (10 + 2 * s.number)).ao l[s.number].symbols.length (HR (10 + 2 * s.number)).cap) := by rw [cell_of BX]; rfl
      have m3 : X.cell? ⟨w3.heap.size, 3, none⟩ = some (.slice (HR (11 + 2 * s.number)).ao l[s.number].proof.length (HR (11 + 2 * s.number)).cap) := by rw [cell_of BX]; rfl
      have m4 : X.cell? ⟨w3.heap.size, 4, none⟩ = some (.string l[s.number].fin.file) := by rw [cell_of BX]; rfl
      have m5 : X.cell? ⟨w3.heap.size, 5, none⟩ = some (.int .i64 l[s.number].fin.line) := by rw [cell_of BX]; rfl
      have m6 : X.cell? ⟨w3.heap.size, 6, none⟩ = some (.int .i64 l[s.number].fin.col) := by rw [cell_of BX]; rfl
      have m7 : X.cell? ⟨w3.heap.size, 7, none⟩ = some (.int .i64 l[s.number].til) := by rw [cell_of BX]; rfl
      have PX := PW.still kX
      have hsX := lt_of_get BX
      obtain ⟨x0, x1⟩ := HC.out X kX
      have HIA := (show Hid _ from isAt_eq l s.number hn')
      cases hia : isA l[s.number].kind
      · have HF : Hid (showF l vs ms (sh.map Ex.xs) (th.map Ex.xs) s = ((0, l[s.number].symbols), th.map Ex.xs)) := by show _ = _; rw [HS.out, HIA.out, hia]; rfl
        clear HS HIA
        go_upto_region 8 with (go_at_call 52; refine (isAssertion_any l[s.number].kind _ _ _ _ _ _ _ _).mono ?_; rintro e w5 ⟨rfl, k5⟩; have BX5 := k5.get BX (by simp))
        have m2' : w5.cell? ⟨w3.heap.size, 2, none⟩ = some (.slice (HR (10 + 2 * s.number)).ao l[s.number].symbols.length (HR (10 + 2 * s.number)).cap) := by rw [cell_of BX5]; rfl
        have o0 := E.recd.sts.syms s.number l[s.number] (List.getElem?_eq_getElem hn')
        have kk := (kX.trans k5)
        have P5 := PW.still kk
        clear m0 m1 m2 m3 m4 m5 m6 m7
        go_wp2
        exact bodyPost_ret (v := .tuple #[.slice (HR (10 + 2 * s.number)).ao l[s.number].symbols.length (HR (10 + 2 * s.number)).cap, .int .i64 0]) (by simp [results, Tryz.results91, go_sem]) rfl
          ⟨th, ⟨HR (10 + 2 * s.number), l[s.number].symbols⟩, by rw [HF.out], by rw [HF.out], P5, ⟨o0.view.still P5.kept, fun x hx => ⟨Nat.lt_of_lt_of_le (o0.lt hx) P5.kept.size, by have := o0.lt hx; have := P.hb; omega, fun hm => by have := P.hin x hm; have := o0.lt hx; omega⟩⟩, fun _ => by rw [HF.out], Nat.le_refl _⟩
      · have HF : Hid (showF l vs ms (sh.map Ex.xs) (th.map Ex.xs) s = (applyF l s.number vs ms (th.map Ex.xs), (th.map Ex.xs).take (th.length - (hypsF l s.number).length))) := by show _ = _; rw [HS.out, HIA.out, hia]; rfl
        have hAt : isAt l s.number = true := by rw [HIA.out, hia]
        clear HS HIA
        go_upto_region 7 with (go_at_call 52; refine (isAssertion_any l[s.number].kind _ _ _ _ _ _ _ _).mono ?_; rintro e w5 ⟨rfl, k5⟩)
        obtain ⟨y0, y1⟩ := HC.out w5 (kX.trans k5)
        have P5 := PX.still k5
        clear m0 m1 m2 m3 m4 m5 m6 m7
        go_wp2_with fail
        refine (apply_any w0 w5 b rb ro g tb s.number l HR K vs ms hv hm sh th H E P5 hn' hAt hth).mono ?_
        rintro e w6 ⟨th6, ex6, rfl, hx6, P6, F6, hq6, hl6⟩
        have HX6 := (show Hid _ from hx6)
        clear hx6
        go_wp2
        exact bodyPost_ret (v := .tuple #[.slice ex6.hd.ao ex6.xs.length ex6.hd.cap, .int .i64 (applyF l s.number vs ms (th.map Ex.xs)).1]) (by simp [results, Tryz.results91, go_sem]) rfl
          ⟨th6, ex6, by rw [HF.out], by rw [HF.out]; exact HX6.out, P6, F6, fun hh => by rw [HF.out] at hh ⊢; rw [hq6 hh, List.map_take], hl6⟩
    · obtain ⟨X, hX⟩ : ∃ X, X = (((((((w3.setCell ⟨W.heap.size, 0, none⟩ (.int .i64 l[s.number].kind)).setCell ⟨W.heap.size, 1, none⟩ (.string l[s.number].label)).setCell ⟨W.heap.size, 2, none⟩ (.slice (HR (10 + 2 * s.number)).ao l[s.number].symbols.length (HR (10 + 2 * s.number)).cap)).setCell ⟨W.heap.size, 3, none⟩ (.slice (HR (11 + 2 * s.number)).ao l[s.number].proof.length (HR (11 + 2 * s.number)).cap)).setCell ⟨W.heap.size, 4, none⟩ (.string l[s.number].fin.file)).setCell ⟨W.heap.size, 5, none⟩ (.int .i64 l[s.number].fin.line)).setCell ⟨W.heap.size, 6, none⟩ (.int .i64 l[s.number].fin.col)).setCell ⟨W.heap.size, 7, none⟩ (.int .i64 l[s.number].til) := ⟨_, rfl⟩
      have k3' := (((Kept.refl [] W).alloc _).drew.trans k3)
      have q3' := k3.get (show (W.alloc (.cells #[.int .i64 0, .string ⟨#[]⟩, .slice none 0 0, .slice none 0 0, .string ⟨#[]⟩, .int .i64 0, .int .i64 0, .int .i64 0] 100)).drew.heap[W.heap.size]? = _ from heap_alloc_new _ _) (by simp)
      have kX : Kept [] W X := by rw [hX]; exact (((((((k3'.setCell (Or.inr (Nat.le_refl _)) _).setCell (Or.inr (Nat.le_refl _)) _).setCell (Or.inr (Nat.le_refl _)) _).setCell (Or.inr (Nat.le_refl _)) _).setCell (Or.inr (Nat.le_refl _)) _).setCell (Or.inr (Nat.le_refl _)) _).setCell (Or.inr (Nat.le_refl _)) _).setCell (Or.inr (Nat.le_refl _)) _
      have BX : X.heap[W.heap.size]? = some (.cells #[.int .i64 l[s.number].kind, .string l[s.number].label, .slice (HR (10 + 2 * s.number)).ao l[s.number].symbols.length (HR (10 + 2 * s.number)).cap, .slice (HR (11 + 2 * s.number)).ao l[s.number].proof.length (HR (11 + 2 * s.number)).cap, .string l[s.number].fin.file, .int .i64 l[s.number].fin.line, .int .i64 l[s.number].fin.col, .int .i64 l[s.number].til] 100 (0, 0)) := by
        rw [hX, block_setCell (block_setCell (block_setCell (block_setCell (block_setCell (block_setCell (block_setCell (block_setCell q3' _ _) _ _) _ _) _ _) _ _) _ _) _ _)]; rfl
      rw [← hX]
      clear hX x0 x1 u0 u1 p0 q0 q1 q2 q3 q4 q5 q6 q7 qf k3' q3'
      have m0 : X.cell? ⟨W.heap.size, 0, none⟩ = some (.int .i64 l[s.number].kind) := by rw [cell_of BX]; rfl
      have m1 : X.cell? ⟨W.heap.size, 1, none⟩ = some (.string l[s.number].label) := by rw [cell_of BX]; rfl
      have m2 : X.cell? ⟨W.heap.size, 2, none⟩ = some (.slice (HR (10 + 2 * s.number)).ao l[s.number].symbols.length (HR (10 + 2 * s.number)).cap) := by rw [cell_of BX]; rfl
      have m3 : X.cell? ⟨W.heap.size, 3, none⟩ = some (.slice (HR (11 + 2 * s.number)).ao l[s.number].proof.length (HR (11 + 2 * s.number)).cap) := by rw [cell_of BX]; rfl
      have m4 : X.cell? ⟨W.heap.size, 4, none⟩ = some (.string l[s.number].fin.file) := by rw [cell_of BX]; rfl
      have m5 : X.cell? ⟨W.heap.size, 5, none⟩ = some (.int .i64 l[s.number].fin.line) := by rw [cell_of BX]; rfl
      have m6 : X.cell? ⟨W.heap.size, 6, none⟩ = some (.int .i64 l[s.number].fin.col) := by rw [cell_of BX]; rfl
      have m7 : X.cell? ⟨W.heap.size, 7, none⟩ = some (.int .i64 l[s.number].til) := by rw [cell_of BX]; rfl
      have PX := PW.still kX
      have hsX := lt_of_get BX
      obtain ⟨x0, x1⟩ := HC.out X kX
      have HIA := (show Hid _ from isAt_eq l s.number hn')
      cases hia : isA l[s.number].kind
      · have HF : Hid (showF l vs ms (sh.map Ex.xs) (th.map Ex.xs) s = ((0, l[s.number].symbols), th.map Ex.xs)) := by show _ = _; rw [HS.out, HIA.out, hia]; rfl
        clear HS HIA
        go_upto_region 8 with (go_at_call 52; refine (isAssertion_any l[s.number].kind _ _ _ _ _ _ _ _).mono ?_; rintro e w5 ⟨rfl, k5⟩; have BX5 := k5.get BX (by simp))
        have m2' : w5.cell? ⟨W.heap.size, 2, none⟩ = some (.slice (HR (10 + 2 * s.number)).ao l[s.number].symbols.length (HR (10 + 2 * s.number)).cap) := by rw [cell_of BX5]; rfl
        have o0 := E.recd.sts.syms s.number l[s.number] (List.getElem?_eq_getElem hn')
        have kk := (kX.trans k5)
        have P5 := PW.still kk
        clear m0 m1 m2 m3 m4 m5 m6 m7
        go_wp2
        exact bodyPost_ret (v := .tuple #[.slice (HR (10 + 2 * s.number)).ao l[s.number].symbols.length (HR (10 + 2 * s.number)).cap, .int .i64 0]) (by simp [results, Tryz.results91, go_sem]) rfl
          ⟨th, ⟨HR (10 + 2 * s.number), l[s.number].symbols⟩, by rw [HF.out], by rw [HF.out], P5, ⟨o0.view.still P5.kept, fun x hx => ⟨Nat.lt_of_lt_of_le (o0.lt hx) P5.kept.size, by have := o0.lt hx; have := P.hb; omega, fun hm => by have := P.hin x hm; have := o0.lt hx; omega⟩⟩, fun _ => by rw [HF.out], Nat.le_refl _⟩
      · have HF : Hid (showF l vs ms (sh.map Ex.xs) (th.map Ex.xs) s = (applyF l s.number vs ms (th.map Ex.xs), (th.map Ex.xs).take (th.length - (hypsF l s.number).length))) := by show _ = _; rw [HS.out, HIA.out, hia]; rfl
        have hAt : isAt l s.number = true := by rw [HIA.out, hia]
        clear HS HIA
        go_upto_region 7 with (go_at_call 52; refine (isAssertion_any l[s.number].kind _ _ _ _ _ _ _ _).mono ?_; rintro e w5 ⟨rfl, k5⟩)
        obtain ⟨y0, y1⟩ := HC.out w5 (kX.trans k5)
        have P5 := PX.still k5
        clear m0 m1 m2 m3 m4 m5 m6 m7
        go_wp2_with fail
        refine (apply_any w0 w5 b rb ro g tb s.number l HR K vs ms hv hm sh th H E P5 hn' hAt hth).mono ?_
        rintro e w6 ⟨th6, ex6, rfl, hx6, P6, F6, hq6, hl6⟩
        have HX6 := (show Hid _ from hx6)
        clear hx6
        go_wp2
        exact bodyPost_ret (v := .tuple #[.slice ex6.hd.ao ex6.xs.length ex6.hd.cap, .int .i64 (applyF l s.number vs ms (th.map Ex.xs)).1]) (by simp [results, Tryz.results91, go_sem]) rfl
          ⟨th6, ex6, by rw [HF.out], by rw [HF.out]; exact HX6.out, P6, F6, fun hh => by rw [HF.out] at hh ⊢; rw [hq6 hh, List.map_take], hl6⟩
  · have hd0 : decide ((s.number : Int) < 0) = false := by simp
    by_cases hlt : s.number < sh.length
    · have HF : Hid (showF l vs ms (sh.map Ex.xs) (th.map Ex.xs) s = ((0, sh[s.number].xs), th.map Ex.xs)) := by
        show _ = _
        unfold showF
        rw [hk, if_pos rfl, List.length_map, if_pos hlt, List.getD_eq_getElem?_getD]
        simp [hlt]
      have hd1 : decide ((s.number : Int) ≥ sh.length) = false := by simp; omega
      have hlti : (s.number : Int) < sh.length := by omega
      have oS : Owns W (H 0) (rowE sh) := PW.ply.bag.own 0
      rcases oS.ways with ⟨_, h0, _⟩ | ⟨gs, curs, es, -, es3, -⟩
      · have : sh.length = 0 := h0
        omega
      have cs := oS.cell es s.number (exV sh[s.number]) (exsV_at sh s.number hlt)
      have hcp : sh.length ≤ (H 0).cap := es3
      have hfar := (PW.ply.shs sh[s.number] (List.getElem_mem hlt)).1
      rw [es] at p3
      unfold exV at cs
      generalize sh[s.number] = ex at *
      clear p0 p1 p2 p4 oS es
      go_enter Tryz.func91, Tryz.ntmps91
      go_upto_region 1 with fail
      rw [HW.out]
      go_upto_region 2 with fail
      go_quiet (fail)
      go_upto_region 4 with fail
      go_quiet (fail)
      go_wp2
      exact bodyPost_ret (v := .tuple #[.slice ex.hd.ao ex.xs.length ex.hd.cap, .int .i64 0]) (by simp [results, Tryz.results91, go_sem]) rfl
        ⟨th, ex, by rw [HF.out], by rw [HF.out], PW.still (((Kept.refl [] _).drewN _).drewN _), hfar.still (((Kept.refl [] _).drewN _).drewN _), fun _ => by rw [HF.out], Nat.le_refl _⟩
    · have HF : Hid (showF l vs ms (sh.map Ex.xs) (th.map Ex.xs) s = ((5, []), th.map Ex.xs)) := by
        show _ = _
        unfold showF
        rw [hk, if_pos rfl, List.length_map, if_neg hlt]
      have hd1 : decide ((s.number : Int) ≥ sh.length) = true := by simp; omega
      clear p0 p1 p2 p4
      go_enter Tryz.func91, Tryz.ntmps91
      go_upto_region 1 with fail
      rw [HW.out]
      go_upto_region 2 with fail
      go_quiet (fail)
      go_wp2
      exact bodyPost_ret (v := .tuple #[.slice none 0 0, .int .i64 5]) (by simp [results, Tryz.results91, go_sem]) rfl
        ⟨th, ⟨⟨none, 0⟩, []⟩, by rw [HF.out]; rfl, by rw [HF.out], PW.still ((Kept.refl [] _).drewN _), far_none _ _ _, by rw [HF.out]; simp, Nat.le_refl _⟩

end Go.Proofs.YtkancbaldeeijaaGreat

/- Package player: play. -/
namespace Go.Proofs.YtkancbaldeeijaaGreat
open Go.RowKit

/-- A step played: why it may not; what was shown, what is there. -/
def playF (l : List St) (vs : List ByteArray) (ms : List Bool) (S : List (List ByteArray) × List (List ByteArray)) (s : Stp) : Int × List (List ByteArray) × List (List ByteArray) :=
  if ((showF l vs ms S.1 S.2 s).1.1 == 0) = true then
    (if (showF l vs ms S.1 S.2 s).1.2.length ≤ 32 then (0, S.1 ++ [(showF l vs ms S.1 S.2 s).1.2], (showF l vs ms S.1 S.2 s).2 ++ [(showF l vs ms S.1 S.2 s).1.2]) else (10, S))
  else ((showF l vs ms S.1 S.2 s).1.1, S)

theorem Plays.turned {w0 w w' : World} {b rb ro g n tb : Nat} {sh th sh' th' : List Ex} {H H' : Nat → Hd} (h : Plays w0 w b rb ro g n tb sh th H) (t : Turned b w H w' H') (bag : BagIs w' b 137 (plyList rb ro g n tb sh' th' H') (rowPl sh' th') H')
    (hs : ∀ e ∈ sh', FarV w b H e.hd e.xs ∧ e.xs.length ≤ 32) (ht : ∀ e ∈ th', FarV w b H e.hd e.xs ∧ e.xs.length ≤ 32) : Plays w0 w' b rb ro g n tb sh' th' H' := by
  refine ⟨⟨bag, fun e he => ⟨(hs e he).1.turned t, (hs e he).2⟩, fun e he => ⟨(ht e he).1.turned t, (ht e he).2⟩⟩, h.kept.ofP t.1 ?_, h.hb, fun x hx => ?_⟩
  · rintro x (e | e)
    · have := h.hb; omega
    · exact h.hin x e
  · rcases t.2 x hx with e | e
    · exact h.hin x e
    · exact Nat.le_trans h.kept.size e

set_option maxHeartbeats 3000000 in
set_option maxRecDepth 100000 in
theorem play_any (w0 w : World) (b rb ro g tb : Nat) (s : Stp) (l : List St) (HR K : Nat → Hd) (vs : List ByteArray) (ms : List Bool) (hv hm : Hd) (sh th : List Ex) (H : Nat → Hd) (E : PEnv w0 rb ro g tb l HR K vs ms hv hm) (P : Plays w0 w b rb ro g l.length tb sh th H)
    (hn : (s.kind == 3) = false → s.number < l.length) (hsn : s.number ≤ 2000000) (hth : th.length ≤ 2000000) (hsh : sh.length ≤ 2000000) :
    Calls Tryz.prog 70 #[.pointer (some ⟨b, 0, none⟩), .agg #[.int .i64 s.kind, .int .i64 s.number, .string s.at_.file, .int .i64 s.at_.line, .int .i64 s.at_.col]] w fun e w' => ∃ (sh' th' : List Ex) (H' : Nat → Hd),
      e = .returned (.int .i64 (playF l vs ms (sh.map Ex.xs, th.map Ex.xs) s).1) ∧ Plays w0 w' b rb ro g l.length tb sh' th' H' ∧
      (((playF l vs ms (sh.map Ex.xs, th.map Ex.xs) s).1 == 0) = true → (sh'.map Ex.xs, th'.map Ex.xs) = (playF l vs ms (sh.map Ex.xs, th.map Ex.xs) s).2) ∧ th'.length ≤ th.length + 1 ∧ sh'.length ≤ sh.length + 1 := by
  obtain ⟨i1, hi1, hy0, hy1, hy2⟩ := info_parts infoLS
  obtain ⟨W, hW⟩ : ∃ W, W = w.alloc (.cells #[.int .i64 s.kind, .int .i64 s.number, .string s.at_.file, .int .i64 s.at_.line, .int .i64 s.at_.col] 121) := ⟨_, rfl⟩
  have kW : Kept [] w W := by rw [hW]; exact (Kept.refl [] _).alloc _
  have B : W.heap[w.heap.size]? = some (.cells #[.int .i64 s.kind, .int .i64 s.number, .string s.at_.file, .int .i64 s.at_.line, .int .i64 s.at_.col] 121 (0, 0)) := by rw [hW]; exact heap_alloc_new _ _
  have HW := (show Hid _ from hW.symm)
  have u0 : W.cell? ⟨w.heap.size, 0, none⟩ = some (.int .i64 s.kind) := by rw [cell_of B]; rfl
  have u1 : W.cell? ⟨w.heap.size, 1, none⟩ = some (.int .i64 s.number) := by rw [cell_of B]; rfl
  have u2 : W.cell? ⟨w.heap.size, 2, none⟩ = some (.string s.at_.file) := by rw [cell_of B]; rfl
  have u3 : W.cell? ⟨w.heap.size, 3, none⟩ = some (.int .i64 s.at_.line) := by rw [cell_of B]; rfl
  have u4 : W.cell? ⟨w.heap.size, 4, none⟩ = some (.int .i64 s.at_.col) := by rw [cell_of B]; rfl
  have PW := P.still kW
  have SH := show_any w0 W b rb ro g tb s l HR K vs ms hv hm sh th H E PW hn hsn hth
  have HPF : Hid (∀ q, showF l vs ms (sh.map Ex.xs) (th.map Ex.xs) s = q → playF l vs ms (sh.map Ex.xs, th.map Ex.xs) s = if (q.1.1 == 0) = true then (if q.1.2.length ≤ 32 then (0, sh.map Ex.xs ++ [q.1.2], q.2 ++ [q.1.2]) else (10, sh.map Ex.xs, th.map Ex.xs)) else (q.1.1, sh.map Ex.xs, th.map Ex.xs)) := by
    intro q hq; subst hq; rfl
  have HP2 := (show Hid _ from HPF.out _ rfl)
  generalize showF l vs ms (sh.map Ex.xs) (th.map Ex.xs) s = Q at *
  obtain ⟨⟨q, xs⟩, t2⟩ := Q
  simp only at SH HP2
  clear hW HPF B
  go_enter Tryz.func70, Tryz.ntmps70
  go_upto_region 1 with fail
  rw [HW.out]
  go_wp2_with fail
  refine SH.mono ?_
  rintro e w2 ⟨th2, ex, rfl, hx2, P2, F2, hq2, hl2⟩
  subst hx2
  cases hq : (q == 0)
  · have hq' : (q != 0) = true := by simp [bne, hq]
    have HF : Hid (playF l vs ms (sh.map Ex.xs, th.map Ex.xs) s = (q, sh.map Ex.xs, th.map Ex.xs)) := by show _ = _; rw [HP2.out, hq]; rfl
    clear HP2 SH u0 u1 u2 u3 u4
    go_wp2
    go_ret
    exact ⟨sh, th2, H, ret_int (by rw [HF.out]), P2, fun hh => by rw [HF.out] at hh; exact absurd (hq.symm.trans hh) (by simp), by omega, by omega⟩
  · have hq' : (q != 0) = false := by simp [bne, hq]
    by_cases hlen : ex.xs.length ≤ 32
    · have hli : ¬ ((ex.xs.length : Int) > 32) := by omega
      have HF : Hid (playF l vs ms (sh.map Ex.xs, th.map Ex.xs) s = (0, sh.map Ex.xs ++ [ex.xs], t2 ++ [ex.xs])) := by show _ = _; rw [HP2.out, hq, if_pos rfl, if_pos hlen]
      have HQ2 := (show Hid _ from hq2 hq)
      clear HP2 SH u0 u1 u2 u3 u4 hq2
      go_upto_region 6 with fail
      have D2 := P2.ply.bag
      have p3 := P2.ply.cells.1
      have y3 := D2.free
      have hb2 := D2.lt
      have hA3 := D2.still ((Kept.refl [] w2).alloc (.cells #[.slice ex.hd.ao ex.xs.length ex.hd.cap] 22))
      have hrw : Hid (∀ j, j ≠ 0 → rowPl (sh ++ [ex]) th2 j = rowPl sh th2 j) := by
        intro j hj
        match j, hj with
        | 0, hj => exact absurd rfl hj
        | 1, _ => rfl
        | m + 2, _ => rfl
      have hrw1 : Hid (∀ j, j ≠ 1 → rowPl (sh ++ [ex]) (th2 ++ [ex]) j = rowPl (sh ++ [ex]) th2 j) := by
        intro j hj
        match j, hj with
        | 0, _ => rfl
        | 1, hj => exact absurd rfl hj
        | m + 2, _ => rfl
      go_wp2_with (at_builtin; refine wpList_append_row _ rfl (.tmp 23) (.tmp 25) 135 rfl i1 (.slice none 0 0) 24 (H 0) (rowE sh) Tryz.underlying135 hi1 hy0 hy1 hy2 rfl Nat.one_pos rfl (by exact hA3.own 0) ⟨_, 0, none⟩ 1 1 [.slice ex.hd.ao ex.xs.length ex.hd.cap] rfl rfl ?e1 ?e2 Nat.one_pos ?e3 ?e4 ?_)
      case e1 => intro j u hj; match j, hj with | 0, hj => simp at hj; subst hj; simp [Addr.add]
      case e2 => intro u hu; simp at hu; subst hu; rfl
      case e3 => simp only [rowE]; unfold maxLen; omega
      case e4 => simp only [rowE]; omega
      intro g4 cap4 w4 hw4 hgr4 hfresh4
      obtain ⟨k4, f4, HP4⟩ := hA3.app (cs' := plyList rb ro g l.length tb (sh ++ [ex]) th2 (upd H 0 ⟨some ⟨g4, 0, none⟩, cap4⟩)) (rows' := rowPl (sh ++ [ex]) th2) 3 0 g4 cap4 ((rowE sh).n + 1) _ hw4 (rowE_snoc sh ex) hgr4 (by simpa using hfresh4) hrw.out (.slice (H 0).ao sh.length (H 0).cap) rfl (by simp [plyList, upd, rowE])
      clear hw4 hgr4 hfresh4 hA3 p3 y3
      go_upto_region 7 with fail
      generalize hX : w4.setCell ⟨b, 3, none⟩ (.slice (some ⟨g4, 0, none⟩) ((rowE sh).n + 1) cap4) = X at HP4 ⊢
      have DX := HP4.out.1
      have TX := (show Hid _ from HP4.out.2.first ((Kept.refl [] _).alloc _))
      have p4 := DX.cell 4
      simp only [plyList, List.getElem?_cons_succ, List.getElem?_cons_zero] at p4
      have y4 := DX.free
      have hbX := DX.lt
      have hA5 := DX.still ((Kept.refl [] X).alloc (.cells #[.slice ex.hd.ao ex.xs.length ex.hd.cap] 22))
      clear hX k4 f4
      go_wp2_with (at_builtin; refine wpList_append_row _ rfl (.tmp 33) (.tmp 35) 135 rfl i1 (.slice none 0 0) 24 (upd H 0 ⟨some ⟨g4, 0, none⟩, cap4⟩ 1) (rowE th2) Tryz.underlying135 hi1 hy0 hy1 hy2 rfl Nat.one_pos rfl (by exact hA5.own 1) ⟨_, 0, none⟩ 1 1 [.slice ex.hd.ao ex.xs.length ex.hd.cap] rfl rfl ?e1 ?e2 Nat.one_pos ?e3 ?e4 ?_)
      case e1 => intro j u hj; match j, hj with | 0, hj => simp at hj; subst hj; simp [Addr.add]
      case e2 => intro u hu; simp at hu; subst hu; rfl
      case e3 => simp only [rowE]; unfold maxLen; omega
      case e4 => simp only [rowE]; omega
      intro g6 cap6 w6 hw6 hgr6 hfresh6
      obtain ⟨k6, f6, HP6⟩ := hA5.app (cs' := plyList rb ro g l.length tb (sh ++ [ex]) (th2 ++ [ex]) (upd (upd H 0 ⟨some ⟨g4, 0, none⟩, cap4⟩) 1 ⟨some ⟨g6, 0, none⟩, cap6⟩)) (rows' := rowPl (sh ++ [ex]) (th2 ++ [ex])) 4 1 g6 cap6 ((rowE th2).n + 1) _ hw6 (rowE_snoc th2 ex) hgr6 (by simpa using hfresh6) hrw1.out (.slice (upd H 0 ⟨some ⟨g4, 0, none⟩, cap4⟩ 1).ao th2.length (upd H 0 ⟨some ⟨g4, 0, none⟩, cap4⟩ 1).cap) rfl (by simp [plyList, upd, rowE])
      have T6 := (show Hid _ from Turned.trans TX.out (HP6.out.2.first ((Kept.refl [] _).alloc _)))
      clear hw6 hgr6 hfresh6 hA5 p4 y4
      go_wp2
      go_ret
      refine ⟨sh ++ [ex], th2 ++ [ex], _, ret_int (by rw [HF.out]), P2.turned T6.out HP6.out.1 (fun e he => ?_) (fun e he => ?_), fun _ => by rw [HF.out]; simp [HQ2.out], by simp; omega, by simp⟩
      · rw [List.mem_append] at he
        rcases he with he | he
        · exact P2.ply.shs e he
        · simp at he; subst he; exact ⟨F2, hlen⟩
      · rw [List.mem_append] at he
        rcases he with he | he
        · exact P2.ply.ths e he
        · simp at he; subst he; exact ⟨F2, hlen⟩
    · have hli : (ex.xs.length : Int) > 32 := by omega
      have HF : Hid (playF l vs ms (sh.map Ex.xs, th.map Ex.xs) s = (10, sh.map Ex.xs, th.map Ex.xs)) := by show _ = _; rw [HP2.out, hq, if_pos rfl, if_neg hlen]
      clear HP2 SH u0 u1 u2 u3 u4
      go_wp2
      go_ret
      exact ⟨sh, th2, H, ret_int (by rw [HF.out]), P2, by rw [HF.out]; simp, by omega, by omega⟩

end Go.Proofs.YtkancbaldeeijaaGreat
