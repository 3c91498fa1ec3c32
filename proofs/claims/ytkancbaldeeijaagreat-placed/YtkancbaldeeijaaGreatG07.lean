/- Our texts: Db13, Db14, Db15. -/
import Derived.Test.YtkancbaldeeijaaGreatG06
/- Package statements: one word more. -/
namespace Go.Proofs.YtkancbaldeeijaaGreat
open Go.RowKit

theorem Small.mono {d : Db} {N M : Nat} (h : Small d N) (hl : N ≤ M) : Small d M :=
  ⟨Nat.le_trans h.labels hl, Nat.le_trans h.constants hl, Nat.le_trans h.variables hl, Nat.le_trans h.active hl, Nat.le_trans h.typed hl, Nat.le_trans h.blocks hl, Nat.le_trans h.sts hl, Nat.le_trans h.rbl hl, Nat.le_trans h.symbols hl, Nat.le_trans h.proof hl⟩

theorem DbIs.kind {w : World} {b t : Nat} {pre post : List Value} {d : Db} {H : Nat → Hd} (h : DbIs w b t pre post d H) (o : Nat) (ho : pre.length = o) (k : Int) :
    Hid (DbIs (w.setCell ⟨b, o + 8, none⟩ (.int .i64 k)) b t pre post { d with kind := k } H ∧ Turned b w H (w.setCell ⟨b, o + 8, none⟩ (.int .i64 k)) H) :=
  h.set (d' := { d with kind := k }) o 8 ho (rows_kind d H k) _ (by omega) rfl
theorem DbIs.lab {w : World} {b t : Nat} {pre post : List Value} {d : Db} {H : Nat → Hd} (h : DbIs w b t pre post d H) (o : Nat) (ho : pre.length = o) (k : ByteArray) :
    Hid (DbIs (w.setCell ⟨b, o + 9, none⟩ (.string k)) b t pre post { d with label := k } H ∧ Turned b w H (w.setCell ⟨b, o + 9, none⟩ (.string k)) H) :=
  h.set (d' := { d with label := k }) o 9 ho (rows_label d H k) _ (by omega) rfl
theorem DbIs.inProof {w : World} {b t : Nat} {pre post : List Value} {d : Db} {H : Nat → Hd} (h : DbIs w b t pre post d H) (o : Nat) (ho : pre.length = o) (k : Bool) :
    Hid (DbIs (w.setCell ⟨b, o + 11, none⟩ (.bool k)) b t pre post { d with inProof := k } H ∧ Turned b w H (w.setCell ⟨b, o + 11, none⟩ (.bool k)) H) :=
  h.set (d' := { d with inProof := k }) o 11 ho (rows_inProof d H k) _ (by omega) rfl
theorem DbIs.forget {w : World} {b t : Nat} {pre post : List Value} {d : Db} {H : Nat → Hd} (h : DbIs w b t pre post d H) (o : Nat) (ho : pre.length = o) :
    DbIs (w.setCell ⟨b, o + 10, none⟩ (.slice none 0 0)) b t pre post { d with symbols := [] } (upd H 8 ⟨none, 0⟩) ∧ Turned b w H (w.setCell ⟨b, o + 10, none⟩ (.slice none 0 0)) (upd H 8 ⟨none, 0⟩) :=
  h.put (d' := { d with symbols := [] }) o 10 ho 8 (by omega) ⟨none, 0⟩ ⟨by simp [rowsOf, rowS, strs], Or.inl ⟨by simp [rowsOf, rowS], by simp [rowsOf, rowS]⟩⟩ (World.grownBy.refl _ _) (Or.inl rfl) (rows_symbols d H []) _ (by omega) (by simp [dbList, upd])
theorem DbIs.noProof {w : World} {b t : Nat} {pre post : List Value} {d : Db} {H : Nat → Hd} (h : DbIs w b t pre post d H) (o : Nat) (ho : pre.length = o) :
    DbIs (w.setCell ⟨b, o + 12, none⟩ (.slice none 0 0)) b t pre post { d with proof := [] } (upd H 9 ⟨none, 0⟩) ∧ Turned b w H (w.setCell ⟨b, o + 12, none⟩ (.slice none 0 0)) (upd H 9 ⟨none, 0⟩) :=
  h.put (d' := { d with proof := [] }) o 12 ho 9 (by omega) ⟨none, 0⟩ ⟨by simp [rowsOf, rowW, wordsV], Or.inl ⟨by simp [rowsOf, rowW], by simp [rowsOf, rowW]⟩⟩ (World.grownBy.refl _ _) (Or.inl rfl) (rows_proof d H []) _ (by omega) (by simp [dbList, upd])

def takeKeywordF (d : Db) (x : ByteArray) : Int × Db :=
  if (x.toList == [36, 102]) = true then (0, { d with kind := 2 })
  else if (x.toList == [36, 101]) = true then (0, { d with kind := 3 })
  else if (x.toList == [36, 97]) = true then (0, { d with kind := 4 })
  else if (x.toList == [36, 112]) = true then (0, { d with kind := 5 })
  else (14, d)
def beginProofF (d : Db) : Int × Db := if d.symbols.length = 0 then (15, d) else (0, { d with inProof := true })
def takeLabelF (d : Db) (x : ByteArray) : Int × Db :=
  if dollarF x = true then (8, d) else if isLabelF x = false then (12, d) else if isTakenF d x = true then (13, d)
  else (0, { d with labels := d.labels ++ [x], label := x, kind := 6 })
def endF (d : Db) (p : Pl) : Int × Db :=
  if (d.symbols.length : Int) < leastF d then (15, d)
  else if (d.kind == 5) = true ∧ d.inProof = false then (23, d)
  else (0, { declareF d p with kind := 0, label := ⟨#[]⟩, symbols := [], inProof := false, proof := [] })
/-- The innermost block ends: of the names and of the record. -/
def endBothF (d : Db) (q : Nat × Nat) : Db :=
  match d.rbl.getLast? with
  | none => endBlockF d d.blocks.dropLast q
  | some x => { endBlockF d d.blocks.dropLast q with rbl := d.rbl.dropLast, sts := endSts d.sts x }
def takeFirstF (d : Db) (x : ByteArray) : Int × Db :=
  if (x.toList == [36, 123]) = true then (0, { d with blocks := d.blocks ++ [(d.active.length, d.typed.length)], rbl := d.rbl ++ [d.sts.length] })
  else if (x.toList == [36, 125]) = true then (match d.blocks.getLast? with | none => (9, d) | some p => (0, endBothF d p))
  else if (x.toList == [36, 99]) = true then (if 0 < d.blocks.length then (10, d) else (0, { d with kind := 7 }))
  else if (x.toList == [36, 118]) = true then (0, { d with kind := 8 })
  else if (x.toList == [36, 100]) = true then (0, { d with kind := 1 })
  else if (x.toList == [36, 102]) = true ∨ (x.toList == [36, 101]) = true ∨ (x.toList == [36, 97]) = true ∨ (x.toList == [36, 112]) = true then (11, d)
  else takeLabelF d x
/-- Take: the rule that the word breaks, or 0; the database behind it. -/
def takeF (d : Db) (x : ByteArray) (p : Pl) : Int × Db :=
  if (d.kind == 0) = true then takeFirstF d x
  else if (d.kind == 6) = true then takeKeywordF d x
  else if (x.toList == [36, 46]) = true then endF d p
  else if (x.toList == [36, 61]) = true ∧ (d.kind == 5) = true ∧ d.inProof = false then beginProofF d
  else if dollarF x = true then (8, d)
  else if d.inProof = true then (0, { d with proof := d.proof ++ [(x, p)] })
  else if (checkSymbolF d x == 0) = true then (0, { d with symbols := d.symbols ++ [x] })
  else (checkSymbolF d x, d)

set_option maxHeartbeats 1000000 in
set_option maxRecDepth 100000 in
theorem takeKeyword_any (b t o : Nat) (pre post : List Value) (d : Db) (H : Nat → Hd) (x : ByteArray) (w : World) (h : DbIs w b t pre post d H) (ho : pre.length = o) :
    Calls Tryz.prog 80 #[.pointer (some ⟨b, o, none⟩), .string x] w fun e w' => e = .returned (.int .i64 (takeKeywordF d x).1) ∧ ∃ H', DbIs w' b t pre post (takeKeywordF d x).2 H' ∧ Turned b w H w' H' := by
  obtain ⟨q0, q1, q2, q3, q4, q5, q6, q7, q8, q9, q10, q11, q12⟩ := h.cells o ho
  have hfr := h.free
  cases e102 : (x.toList == [36, 102])
  · cases e101 : (x.toList == [36, 101])
    · cases e97 : (x.toList == [36, 97])
      · cases e112 : (x.toList == [36, 112])
        · have HT : Hid (takeKeywordF d x = (14, d)) := by show takeKeywordF d x = _; simp only [takeKeywordF, e102, e101, e97, e112]; simp
          go_enter Tryz.func80, Tryz.ntmps80
          go_wp2
          go_ret
          exact ⟨ret_int (by rw [HT.out]), H, by rw [HT.out]; exact h, Turned.refl _ _ _⟩
        · have HT : Hid (takeKeywordF d x = (0, { d with kind := 5 })) := by show takeKeywordF d x = _; simp only [takeKeywordF, e102, e101, e97, e112]; simp
          have HK := h.kind o ho 5
          go_enter Tryz.func80, Tryz.ntmps80
          go_wp2
          go_ret
          exact ⟨ret_int (by rw [HT.out]), H, by rw [HT.out]; exact HK.out.1, HK.out.2⟩
      · have HT : Hid (takeKeywordF d x = (0, { d with kind := 4 })) := by show takeKeywordF d x = _; simp only [takeKeywordF, e102, e101, e97]; simp
        have HK := h.kind o ho 4
        go_enter Tryz.func80, Tryz.ntmps80
        go_wp2
        go_ret
        exact ⟨ret_int (by rw [HT.out]), H, by rw [HT.out]; exact HK.out.1, HK.out.2⟩
    · have HT : Hid (takeKeywordF d x = (0, { d with kind := 3 })) := by show takeKeywordF d x = _; simp only [takeKeywordF, e102, e101]; simp
      have HK := h.kind o ho 3
      go_enter Tryz.func80, Tryz.ntmps80
      go_wp2
      go_ret
      exact ⟨ret_int (by rw [HT.out]), H, by rw [HT.out]; exact HK.out.1, HK.out.2⟩
  · have HT : Hid (takeKeywordF d x = (0, { d with kind := 2 })) := by show takeKeywordF d x = _; simp only [takeKeywordF, e102]; simp
    have HK := h.kind o ho 2
    go_enter Tryz.func80, Tryz.ntmps80
    go_wp2
    go_ret
    exact ⟨ret_int (by rw [HT.out]), H, by rw [HT.out]; exact HK.out.1, HK.out.2⟩

set_option maxHeartbeats 1000000 in
set_option maxRecDepth 100000 in
theorem beginProof_any (b t o : Nat) (pre post : List Value) (d : Db) (H : Nat → Hd) (w : World) (h : DbIs w b t pre post d H) (ho : pre.length = o) :
    Calls Tryz.prog 82 #[.pointer (some ⟨b, o, none⟩)] w fun e w' => e = .returned (.int .i64 (beginProofF d).1) ∧ ∃ H', DbIs w' b t pre post (beginProofF d).2 H' ∧ Turned b w H w' H' := by
  obtain ⟨q0, q1, q2, q3, q4, q5, q6, q7, q8, q9, q10, q11, q12⟩ := h.cells o ho
  have hfr := h.free
  by_cases hz : d.symbols.length = 0
  · have HT : Hid (beginProofF d = (15, d)) := by show beginProofF d = _; simp only [beginProofF, hz]; simp
    have hz1 : ((d.symbols.length : Int) == 0) = true := by simp [hz]
    clear hz
    go_enter Tryz.func82, Tryz.ntmps82
    go_wp2
    go_ret
    exact ⟨ret_int (by rw [HT.out]), H, by rw [HT.out]; exact h, Turned.refl _ _ _⟩
  · have HT : Hid (beginProofF d = (0, { d with inProof := true })) := by show beginProofF d = _; simp only [beginProofF, hz]; simp
    have hz1 : ((d.symbols.length : Int) == 0) = false := beq_eq_false_iff_ne.2 (by omega)
    have HK := h.inProof o ho true
    clear hz
    go_enter Tryz.func82, Tryz.ntmps82
    go_wp2
    go_ret
    exact ⟨ret_int (by rw [HT.out]), H, by rw [HT.out]; exact HK.out.1, HK.out.2⟩

set_option maxHeartbeats 1000000 in
set_option maxRecDepth 100000 in
theorem takeLabel_any (b t o : Nat) (pre post : List Value) (d : Db) (H : Nat → Hd) (x : ByteArray) (w : World) (h : DbIs w b t pre post d H) (ho : pre.length = o) (hs : Small d 100000000) (hx : x.size ≤ 1073741824) :
    Calls Tryz.prog 96 #[.pointer (some ⟨b, o, none⟩), .string x] w fun e w' => e = .returned (.int .i64 (takeLabelF d x).1) ∧ ∃ H', DbIs w' b t pre post (takeLabelF d x).2 H' ∧ Turned b w H w' H' := by
  obtain ⟨q0, q1, q2, q3, q4, q5, q6, q7, q8, q9, q10, q11, q12⟩ := h.cells o ho
  have hfr := h.free
  cases h1 : dollarF x
  · cases h2 : isLabelF x
    · have HT : Hid (takeLabelF d x = (12, d)) := by show takeLabelF d x = _; simp [takeLabelF, h1, h2]
      go_enter Tryz.func96, Tryz.ntmps96
      go_wp2_with (first | (go_at_call 78; refine (dollar_any x _ hx).mono ?_; rintro e w1 ⟨rfl, rfl⟩) | (go_at_call 111; refine (isLabel_any x _ hx).mono ?_; rintro e w1 ⟨rfl, rfl⟩) | (go_at_call 100; refine (isTaken_any b t o pre post d H x _ (by exact h) ho (hs.mono (by omega))).mono ?_; rintro e w1 ⟨rfl, rfl⟩))
      go_ret
      exact ⟨ret_int (by rw [HT.out]), H, by rw [HT.out]; exact h, Turned.refl _ _ _⟩
    · cases h3 : isTakenF d x
      · have HT : Hid (takeLabelF d x = (0, { d with labels := d.labels ++ [x], label := x, kind := 6 })) := by show takeLabelF d x = _; simp [takeLabelF, h1, h2, h3]
        have hll := hs.labels
        go_enter Tryz.func96, Tryz.ntmps96
        go_wp2_with (first | (go_at_call 78; refine (dollar_any x _ hx).mono ?_; rintro e w1 ⟨rfl, rfl⟩) | (go_at_call 111; refine (isLabel_any x _ hx).mono ?_; rintro e w1 ⟨rfl, rfl⟩) | (go_at_call 100; refine (isTaken_any b t o pre post d H x _ (by exact h) ho (hs.mono (by omega))).mono ?_; rintro e w1 ⟨rfl, rfl⟩))
        refine (addLabel_any b t o pre post d H x _ (by exact h) ho (by omega)).mono ?_
        rintro e w2 ⟨rfl, H2, D2, T2⟩
        have HL := D2.lab o ho x
        have HK := HL.out.1.kind o ho 6
        clear q0 q1 q2 q3 q4 q5 q6 q7 q8 q9 q10 q11 q12 hfr
        obtain ⟨q0, q1, q2, q3, q4, q5, q6, q7, q8, q9, q10, q11, q12⟩ := D2.cells o ho
        have hfr := D2.free
        go_wp2
        go_ret
        exact ⟨ret_int (by rw [HT.out]), H2, by rw [HT.out]; exact HK.out.1, T2.trans (HL.out.2.trans HK.out.2)⟩
      · have HT : Hid (takeLabelF d x = (13, d)) := by show takeLabelF d x = _; simp [takeLabelF, h1, h2, h3]
        go_enter Tryz.func96, Tryz.ntmps96
        go_wp2_with (first | (go_at_call 78; refine (dollar_any x _ hx).mono ?_; rintro e w1 ⟨rfl, rfl⟩) | (go_at_call 111; refine (isLabel_any x _ hx).mono ?_; rintro e w1 ⟨rfl, rfl⟩) | (go_at_call 100; refine (isTaken_any b t o pre post d H x _ (by exact h) ho (hs.mono (by omega))).mono ?_; rintro e w1 ⟨rfl, rfl⟩))
        go_ret
        exact ⟨ret_int (by rw [HT.out]), H, by rw [HT.out]; exact h, Turned.refl _ _ _⟩
  · have HT : Hid (takeLabelF d x = (8, d)) := by show takeLabelF d x = _; simp [takeLabelF, h1]
    go_enter Tryz.func96, Tryz.ntmps96
    go_wp2_with (first | (go_at_call 78; refine (dollar_any x _ hx).mono ?_; rintro e w1 ⟨rfl, rfl⟩) | (go_at_call 111; refine (isLabel_any x _ hx).mono ?_; rintro e w1 ⟨rfl, rfl⟩) | (go_at_call 100; refine (isTaken_any b t o pre post d H x _ (by exact h) ho (hs.mono (by omega))).mono ?_; rintro e w1 ⟨rfl, rfl⟩))
    go_ret
    exact ⟨ret_int (by rw [HT.out]), H, by rw [HT.out]; exact h, Turned.refl _ _ _⟩


end Go.Proofs.YtkancbaldeeijaaGreat

/- Package statements: a statement's end. -/
namespace Go.Proofs.YtkancbaldeeijaaGreat
open Go.RowKit

theorem least_pos (d : Db) : 1 ≤ leastF d := by unfold leastF; split <;> omega

set_option maxHeartbeats 2000000 in
set_option maxRecDepth 100000 in
theorem end_any (b t o : Nat) (pre post : List Value) (d : Db) (H : Nat → Hd) (f : ByteArray) (l c : Int) (w : World) (h : DbIs w b t pre post d H) (ho : pre.length = o) (hs : Small d 10000000) :
    Calls Tryz.prog 81 #[.pointer (some ⟨b, o, none⟩), .agg #[.string f, .int .i64 l, .int .i64 c]] w fun e w' => e = .returned (.int .i64 (endF d ⟨f, l, c⟩).1) ∧ ∃ H', DbIs w' b t pre post (endF d ⟨f, l, c⟩).2 H' ∧ Turned b w H w' H' := by
  obtain ⟨W, hW⟩ : ∃ W, W = w.alloc (.cells #[.string f, .int .i64 l, .int .i64 c] 45) := ⟨_, rfl⟩
  have K : Kept [] w W := by rw [hW]; exact (Kept.refl [] _).alloc _
  have D := h.still K
  have HW := (show Hid _ from hW.symm)
  have B : W.heap[w.heap.size]? = some (.cells #[.string f, .int .i64 l, .int .i64 c] 45 (0, 0)) := by rw [hW]; exact heap_alloc_new _ _
  have p0 : W.cell? ⟨w.heap.size, 0, none⟩ = some (.string f) := by rw [cell_of B]; rfl
  have p1 : W.cell? ⟨w.heap.size, 1, none⟩ = some (.int .i64 l) := by rw [cell_of B]; rfl
  have p2 : W.cell? ⟨w.heap.size, 2, none⟩ = some (.int .i64 c) := by rw [cell_of B]; rfl
  clear hW B h
  obtain ⟨q0, q1, q2, q3, q4, q5, q6, q7, q8, q9, q10, q11, q12⟩ := D.cells o ho
  clear q0 q1 q2 q3 q4 q5 q6 q7 q9 q12
  have hfr := D.free
  by_cases hlt : (d.symbols.length : Int) < leastF d
  · have HT : Hid (endF d ⟨f, l, c⟩ = (15, d)) := by show endF d ⟨f, l, c⟩ = _; simp only [endF, if_pos hlt]
    go_enter Tryz.func81, Tryz.ntmps81
    go_upto_region 1 with fail
    rw [HW.out]
    go_quiet ((go_at_call 97; exact Calls.quiet_of_same (least_any b t o pre post d H _ (D.still ((Kept.refl [] W).drewN _)) ho)))
    go_wp2
    go_ret
    exact ⟨ret_int (by rw [HT.out]), H, by rw [HT.out]; exact D.still ((Kept.refl [] _).drewN _), (Turned.refl _ _ _).still (K.drewN _)⟩
  · have hsp : Hid (0 < d.symbols.length) := by have := least_pos d; show 0 < _; omega
    by_cases hr : (d.kind == 5) = true ∧ d.inProof = false
    · have HT : Hid (endF d ⟨f, l, c⟩ = (23, d)) := by show endF d ⟨f, l, c⟩ = _; simp only [endF, if_neg hlt, if_pos hr]
      obtain ⟨k5, hp⟩ := hr
      rw [hp] at q11
      go_enter Tryz.func81, Tryz.ntmps81
      go_upto_region 1 with fail
      rw [HW.out]
      go_quiet ((go_at_call 97; exact Calls.quiet_of_same (least_any b t o pre post d H _ (D.still ((Kept.refl [] W).drewN _)) ho)))
      go_wp2
      go_ret
      exact ⟨ret_int (by rw [HT.out]), H, by rw [HT.out]; exact D.still ((Kept.refl [] _).drewN _), (Turned.refl _ _ _).still (K.drewN _)⟩
    · have HT : Hid (endF d ⟨f, l, c⟩ = (0, { declareF d ⟨f, l, c⟩ with kind := 0, label := ⟨#[]⟩, symbols := [], inProof := false, proof := [] })) := by show endF d ⟨f, l, c⟩ = _; simp only [endF, if_neg hlt, if_neg hr]
      have hp5 : (d.kind == 5) = true → d.inProof = true := by
        intro k5
        cases hq : d.inProof with
        | true => rfl
        | false => exact absurd ⟨k5, hq⟩ hr
      cases k5 : (d.kind == 5)
      all_goals
        try rw [hp5 k5] at q11
        clear hp5
        clear hr
        go_enter Tryz.func81, Tryz.ntmps81
        go_upto_region 1 with fail
        rw [HW.out]
        go_quiet ((go_at_call 97; exact Calls.quiet_of_same (least_any b t o pre post d H _ (D.still ((Kept.refl [] W).drewN _)) ho)))
        go_wp2_with fail
        refine (declare_any b t o pre post d H f l c _ (by exact D.still ((Kept.refl [] _).drewN _)) ho hsp.out hs).mono ?_
        rintro e w2 ⟨rfl, H2, D2, T2⟩
        have K1 := D2.kind o ho 0
        have K2 := K1.out.1.lab o ho ⟨#[]⟩
        have K3 := (show Hid _ from K2.out.1.forget o ho)
        have K4 := K3.out.1.inProof o ho false
        have K5 := (show Hid _ from K4.out.1.noProof o ho)
        clear q8 q10 q11 hfr p0 p1 p2
        obtain ⟨q0, q1, q2, q3, q4, q5, q6, q7, q8, q9, q10, q11, q12⟩ := D2.cells o ho
        clear q0 q1 q2 q3 q4 q5 q6 q7
        have hfr := D2.free
        go_wp2
        go_ret
        exact ⟨ret_int (by rw [HT.out]), _, by rw [HT.out]; exact K5.out.1, (T2.first (K.drewN _)).trans (K1.out.2.trans (K2.out.2.trans (K3.out.2.trans (K4.out.2.trans K5.out.2))))⟩

end Go.Proofs.YtkancbaldeeijaaGreat

/- Package statements: a statement's first word; Take. -/
namespace Go.Proofs.YtkancbaldeeijaaGreat
open Go.RowKit

theorem last_split {α : Type} {l : List α} {p : α} (h : l.getLast? = some p) : l = l.dropLast ++ [p] := by
  obtain ⟨ys, rfl⟩ := List.getLast?_eq_some_iff.1 h
  simp

/-- What the blocks remember is small, too; the record's blocks are as many. -/
structure Inner (d : Db) (N : Nat) : Prop where
  names : ∀ p, p ∈ d.blocks → p.1 ≤ N ∧ p.2 ≤ N
  same : d.rbl.length = d.blocks.length
  recs : ∀ x, x ∈ d.rbl → x ≤ d.sts.length

set_option maxHeartbeats 3000000 in
set_option maxRecDepth 100000 in
theorem takeFirst_any (b t o : Nat) (pre post : List Value) (d : Db) (H : Nat → Hd) (x : ByteArray) (w : World) (h : DbIs w b t pre post d H) (ho : pre.length = o) (hs1 : Small d 10000000) (hx : x.size ≤ 1073741824) (hi : Inner d 100000000) :
    Calls Tryz.prog 79 #[.pointer (some ⟨b, o, none⟩), .string x] w fun e w' => e = .returned (.int .i64 (takeFirstF d x).1) ∧ ∃ H', DbIs w' b t pre post (takeFirstF d x).2 H' ∧ Turned b w H w' H' := by
  have hs := hs1.mono (M := 100000000) (by omega)
  obtain ⟨q0, q1, q2, q3, q4, q5, q6, q7, q8, q9, q10, q11, q12⟩ := h.cells o ho
  have hfr := h.free
  cases e123 : (x.toList == [36, 123])
  · cases e125 : (x.toList == [36, 125])
    · cases e99 : (x.toList == [36, 99])
      · cases e118 : (x.toList == [36, 118])
        · cases e100 : (x.toList == [36, 100])
          · cases e102 : (x.toList == [36, 102])
            · cases e101 : (x.toList == [36, 101])
              · cases e97 : (x.toList == [36, 97])
                · cases e112 : (x.toList == [36, 112])
                  · have HT : Hid (takeFirstF d x = takeLabelF d x) := by show takeFirstF d x = _; simp only [takeFirstF, e123, e125, e99, e118, e100, e102, e101, e97, e112]; simp
                    go_enter Tryz.func79, Tryz.ntmps79
                    go_wp2_with fail
                    refine (takeLabel_any b t o pre post d H x _ (by exact h) ho hs hx).mono ?_
                    rintro e w2 ⟨rfl, H2, D2, T2⟩
                    go_wp2
                    go_ret
                    exact ⟨ret_int (by rw [HT.out]), H2, by rw [HT.out]; exact D2, T2⟩
                  · have HT : Hid (takeFirstF d x = (11, d)) := by show takeFirstF d x = _; simp only [takeFirstF, e123, e125, e99, e118, e100, e102, e101, e97, e112]; simp
                    go_enter Tryz.func79, Tryz.ntmps79
                    go_wp2
                    go_ret
                    exact ⟨ret_int (by rw [HT.out]), H, by rw [HT.out]; exact h, Turned.refl _ _ _⟩
                · have HT : Hid (takeFirstF d x = (11, d)) := by show takeFirstF d x = _; simp only [takeFirstF, e123, e125, e99, e118, e100, e102, e101, e97]; simp
                  go_enter Tryz.func79, Tryz.ntmps79
                  go_wp2
                  go_ret
                  exact ⟨ret_int (by rw [HT.out]), H, by rw [HT.out]; exact h, Turned.refl _ _ _⟩
              · have HT : Hid (takeFirstF d x = (11, d)) := by show takeFirstF d x = _; simp only [takeFirstF, e123, e125, e99, e118, e100, e102, e101]; simp
                go_enter Tryz.func79, Tryz.ntmps79
                go_wp2
                go_ret
                exact ⟨ret_int (by rw [HT.out]), H, by rw [HT.out]; exact h, Turned.refl _ _ _⟩
            · have HT : Hid (takeFirstF d x = (11, d)) := by show takeFirstF d x = _; simp only [takeFirstF, e123, e125, e99, e118, e100, e102]; simp
              go_enter Tryz.func79, Tryz.ntmps79
              go_wp2
              go_ret
              exact ⟨ret_int (by rw [HT.out]), H, by rw [HT.out]; exact h, Turned.refl _ _ _⟩
          · have HT : Hid (takeFirstF d x = (0, { d with kind := 1 })) := by show takeFirstF d x = _; simp only [takeFirstF, e123, e125, e99, e118, e100]; simp
            have HK := h.kind o ho 1
            go_enter Tryz.func79, Tryz.ntmps79
            go_wp2
            go_ret
            exact ⟨ret_int (by rw [HT.out]), H, by rw [HT.out]; exact HK.out.1, HK.out.2⟩
        · have HT : Hid (takeFirstF d x = (0, { d with kind := 8 })) := by show takeFirstF d x = _; simp only [takeFirstF, e123, e125, e99, e118]; simp
          have HK := h.kind o ho 8
          go_enter Tryz.func79, Tryz.ntmps79
          go_wp2
          go_ret
          exact ⟨ret_int (by rw [HT.out]), H, by rw [HT.out]; exact HK.out.1, HK.out.2⟩
      · by_cases hb0 : 0 < d.blocks.length
        · have HT : Hid (takeFirstF d x = (10, d)) := by show takeFirstF d x = _; simp only [takeFirstF, e123, e125, e99, hb0]; simp
          have hd0 : decide (0 < d.blocks.length) = true := by simpa using hb0
          clear hb0
          go_enter Tryz.func79, Tryz.ntmps79
          go_wp2_with (go_at_call 62; refine (inBlock_any b t o pre post d H _ (by exact h) ho).mono ?_; rintro e w1 ⟨rfl, rfl⟩)
          go_ret
          exact ⟨ret_int (by rw [HT.out]), H, by rw [HT.out]; exact h, Turned.refl _ _ _⟩
        · have HT : Hid (takeFirstF d x = (0, { d with kind := 7 })) := by show takeFirstF d x = _; simp only [takeFirstF, e123, e125, e99, hb0]; simp
          have hd0 : decide (0 < d.blocks.length) = false := by simpa using hb0
          have HK := h.kind o ho 7
          clear hb0
          go_enter Tryz.func79, Tryz.ntmps79
          go_wp2_with (go_at_call 62; refine (inBlock_any b t o pre post d H _ (by exact h) ho).mono ?_; rintro e w1 ⟨rfl, rfl⟩)
          go_ret
          exact ⟨ret_int (by rw [HT.out]), H, by rw [HT.out]; exact HK.out.1, HK.out.2⟩
    · rcases hbb : d.blocks.getLast? with _ | p
      · have hb0 : d.blocks = [] := by simpa using hbb
        have HT : Hid (takeFirstF d x = (9, d)) := by show takeFirstF d x = _; simp only [takeFirstF, e123, e125, hbb]; simp
        have hd0 : decide (0 < d.blocks.length) = false := by rw [hb0]; rfl
        clear hbb hb0
        go_enter Tryz.func79, Tryz.ntmps79
        go_wp2_with (go_at_call 62; refine (inBlock_any b t o pre post d H _ (by exact h) ho).mono ?_; rintro e w1 ⟨rfl, rfl⟩)
        go_ret
        exact ⟨ret_int (by rw [HT.out]), H, by rw [HT.out]; exact h, Turned.refl _ _ _⟩
      · have hb0 : d.blocks = d.blocks.dropLast ++ [p] := last_split hbb
        have HT : Hid (takeFirstF d x = (0, endBothF d p)) := by show takeFirstF d x = _; simp only [takeFirstF, e123, e125, hbb]; simp
        have hd0 : decide (0 < d.blocks.length) = true := by rw [hb0]; simp
        have HB : Hid (d.blocks = d.blocks.dropLast ++ [p]) := hb0
        have hp := hi.names p (by rw [hb0]; simp)
        have hne : d.rbl ≠ [] := by intro e; have := hi.same; rw [e, hb0] at this; simp at this
        obtain ⟨y, hy⟩ : ∃ y, d.rbl.getLast? = some y := ⟨_, List.getLast?_eq_some_getLast hne⟩
        have HR : Hid (d.rbl = d.rbl.dropLast ++ [y]) := last_split hy
        have hyl := hi.recs y (by rw [HR.out]; simp)
        have HE : Hid (endBothF d p = { endBlockF d d.blocks.dropLast p with rbl := d.rbl.dropLast, sts := endSts d.sts y }) := by show endBothF d p = _; unfold endBothF; rw [hy]
        have hs2 : Hid (Small (endBlockF d d.blocks.dropLast p) 100000000) := ⟨hs.labels, hs.constants, hs.variables, by have := hs.active; simp only [endBlockF, List.length_take]; omega, by have := hs.typed; simp only [endBlockF, List.length_take]; omega, by have := hs.blocks; simp only [endBlockF, List.length_dropLast]; omega, hs.sts, hs.rbl, hs.symbols, hs.proof⟩
        clear hbb hb0 hne hy
        go_enter Tryz.func79, Tryz.ntmps79
        go_wp2_with (go_at_call 62; refine (inBlock_any b t o pre post d H _ (by exact h) ho).mono ?_; rintro e w1 ⟨rfl, rfl⟩)
        refine (endBlock_any b t o pre post d H d.blocks.dropLast p _ (by exact h) ho HB.out (hs.mono (by omega)) ⟨by omega, by omega⟩).mono ?_
        rintro e w2 ⟨rfl, D2, T2⟩
        go_wp2_with fail
        refine (recEnd_any b t o pre post (endBlockF d d.blocks.dropLast p) H d.rbl.dropLast y _ (by exact D2) ho HR.out hs2.out hyl).mono ?_
        rintro e w3 ⟨rfl, D3, T3⟩
        go_wp2
        go_ret
        exact ⟨ret_int (by rw [HT.out]), H, by rw [HT.out, HE.out]; exact D3, T2.trans T3⟩
  · have HT : Hid (takeFirstF d x = (0, { d with blocks := d.blocks ++ [(d.active.length, d.typed.length)], rbl := d.rbl ++ [d.sts.length] })) := by show takeFirstF d x = _; simp only [takeFirstF, e123]; simp
    have hbl := hs.blocks
    have hs2 : Hid (Small { d with blocks := d.blocks ++ [(d.active.length, d.typed.length)] } 100000000) := ⟨hs.labels, hs.constants, hs.variables, hs.active, hs.typed, by have := hs1.blocks; simp; omega, hs.sts, hs.rbl, hs.symbols, hs.proof⟩
    go_enter Tryz.func79, Tryz.ntmps79
    go_wp2_with fail
    refine (beginBlock_any b t o pre post d H _ (by exact h) ho (by omega)).mono ?_
    rintro e w2 ⟨rfl, H2, D2, T2⟩
    go_wp2_with fail
    refine (recBegin_any b t o pre post { d with blocks := d.blocks ++ [(d.active.length, d.typed.length)] } H2 _ (by exact D2) ho hs2.out).mono ?_
    rintro e w3 ⟨rfl, H3, D3, T3⟩
    go_wp2
    go_ret
    exact ⟨ret_int (by rw [HT.out]), H3, by rw [HT.out]; exact D3, T2.trans T3⟩

end Go.Proofs.YtkancbaldeeijaaGreat
