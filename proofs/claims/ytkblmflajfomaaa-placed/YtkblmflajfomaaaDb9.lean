/- Package statements: one word more. -/
import Derived.Test.YtkblmflajfomaaaDb8
namespace Go.Proofs.Ytkblmflajfomaaa
open Go.RowKit

theorem Small.mono {d : Db} {N M : Nat} (h : Small d N) (hl : N ≤ M) : Small d M :=
  ⟨Nat.le_trans h.labels hl, Nat.le_trans h.constants hl, Nat.le_trans h.variables hl, Nat.le_trans h.active hl, Nat.le_trans h.typed hl, Nat.le_trans h.blocks hl, Nat.le_trans h.symbols hl⟩

theorem rows_kind (d : Db) (k : Int) : ∀ j, j < 7 → rowsOf { d with kind := k } j = rowsOf d j := by
  intro j hj
  match j, hj with
  | 0, _ => rfl
  | 1, _ => rfl
  | 2, _ => rfl
  | 3, _ => rfl
  | 4, _ => rfl
  | 5, _ => rfl
  | 6, _ => rfl
theorem rows_proof (d : Db) (k : Bool) : ∀ j, j < 7 → rowsOf { d with inProof := k } j = rowsOf d j := by
  intro j hj
  match j, hj with
  | 0, _ => rfl
  | 1, _ => rfl
  | 2, _ => rfl
  | 3, _ => rfl
  | 4, _ => rfl
  | 5, _ => rfl
  | 6, _ => rfl

theorem DbIs.kind {w : World} {b t : Nat} {pre post : List Value} {d : Db} {H : Nat → Hd} (h : DbIs w b t pre post d H) (o : Nat) (ho : pre.length = o) (k : Int) :
    Hid (DbIs (w.setCell ⟨b, o + 6, none⟩ (.int .i64 k)) b t pre post { d with kind := k } H ∧ Turned b w H (w.setCell ⟨b, o + 6, none⟩ (.int .i64 k)) H) :=
  h.set (d' := { d with kind := k }) o 6 ho (rows_kind d k) _ (by omega) rfl
theorem DbIs.proof {w : World} {b t : Nat} {pre post : List Value} {d : Db} {H : Nat → Hd} (h : DbIs w b t pre post d H) (o : Nat) (ho : pre.length = o) (k : Bool) :
    Hid (DbIs (w.setCell ⟨b, o + 8, none⟩ (.bool k)) b t pre post { d with inProof := k } H ∧ Turned b w H (w.setCell ⟨b, o + 8, none⟩ (.bool k)) H) :=
  h.set (d' := { d with inProof := k }) o 8 ho (rows_proof d k) _ (by omega) rfl
theorem DbIs.forget {w : World} {b t : Nat} {pre post : List Value} {d : Db} {H : Nat → Hd} (h : DbIs w b t pre post d H) (o : Nat) (ho : pre.length = o) :
    DbIs (w.setCell ⟨b, o + 7, none⟩ (.slice none 0 0)) b t pre post { d with symbols := [] } (upd H 6 ⟨none, 0⟩) ∧ Turned b w H (w.setCell ⟨b, o + 7, none⟩ (.slice none 0 0)) (upd H 6 ⟨none, 0⟩) :=
  h.put (d' := { d with symbols := [] }) o 7 ho 6 (by omega) ⟨none, 0⟩ ⟨by simp [rowsOf, rowS, strs], Or.inl ⟨by simp [rowsOf, rowS], by simp [rowsOf, rowS]⟩⟩ (World.grownBy.refl _ _) (Or.inl rfl) (rows_symbols d []) _ (by omega) (by simp [dbList, upd])

def takeKeywordF (d : Db) (x : ByteArray) : Int × Db :=
  if (x.toList == [36, 102]) = true then (0, { d with kind := 5 })
  else if (x.toList == [36, 101]) = true then (0, { d with kind := 6 })
  else if (x.toList == [36, 97]) = true then (0, { d with kind := 7 })
  else if (x.toList == [36, 112]) = true then (0, { d with kind := 8 })
  else (14, d)
def beginProofF (d : Db) : Int × Db := if d.symbols.length = 0 then (15, d) else (0, { d with inProof := true })
def takeLabelF (d : Db) (x : ByteArray) : Int × Db :=
  if dollarF x = true then (8, d) else if isLabelF x = false then (12, d) else if isTakenF d x = true then (13, d)
  else (0, { d with labels := d.labels ++ [x], kind := 1 })
def endF (d : Db) : Int × Db :=
  if (d.symbols.length : Int) < leastF d then (15, d)
  else if (d.kind == 8) = true ∧ d.inProof = false then (23, d)
  else (0, { declareF d with kind := 0, symbols := [], inProof := false })
def takeFirstF (d : Db) (x : ByteArray) : Int × Db :=
  if (x.toList == [36, 123]) = true then (0, { d with blocks := d.blocks ++ [(d.active.length, d.typed.length)] })
  else if (x.toList == [36, 125]) = true then (match d.blocks.getLast? with | none => (9, d) | some p => (0, endBlockF d d.blocks.dropLast p))
  else if (x.toList == [36, 99]) = true then (if 0 < d.blocks.length then (10, d) else (0, { d with kind := 2 }))
  else if (x.toList == [36, 118]) = true then (0, { d with kind := 3 })
  else if (x.toList == [36, 100]) = true then (0, { d with kind := 4 })
  else if (x.toList == [36, 102]) = true ∨ (x.toList == [36, 101]) = true ∨ (x.toList == [36, 97]) = true ∨ (x.toList == [36, 112]) = true then (11, d)
  else takeLabelF d x
def takeF (d : Db) (x : ByteArray) : Int × Db :=
  if (d.kind == 0) = true then takeFirstF d x
  else if (d.kind == 1) = true then takeKeywordF d x
  else if (x.toList == [36, 46]) = true then endF d
  else if (x.toList == [36, 61]) = true ∧ (d.kind == 8) = true ∧ d.inProof = false then beginProofF d
  else if dollarF x = true then (8, d)
  else if d.inProof = true then (0, d)
  else if (checkSymbolF d x == 0) = true then (0, { d with symbols := d.symbols ++ [x] })
  else (checkSymbolF d x, d)

set_option maxHeartbeats 1000000 in
set_option maxRecDepth 100000 in
theorem takeKeyword_any (b t o : Nat) (pre post : List Value) (d : Db) (H : Nat → Hd) (x : ByteArray) (w : World) (h : DbIs w b t pre post d H) (ho : pre.length = o) :
    Calls Try.prog 51 #[.pointer (some ⟨b, o, none⟩), .string x] w fun e w' => e = .returned (.int .i64 (takeKeywordF d x).1) ∧ ∃ H', DbIs w' b t pre post (takeKeywordF d x).2 H' ∧ Turned b w H w' H' := by
  obtain ⟨q0, q1, q2, q3, q4, q5, q6, q7, q8⟩ := h.cells o ho
  have hfr := h.free
  cases e102 : (x.toList == [36, 102])
  · cases e101 : (x.toList == [36, 101])
    · cases e97 : (x.toList == [36, 97])
      · cases e112 : (x.toList == [36, 112])
        · have HT : Hid (takeKeywordF d x = (14, d)) := by show takeKeywordF d x = _; simp only [takeKeywordF, e102, e101, e97, e112]; simp
          go_enter Try.func51, Try.ntmps51
          go_wp2
          go_ret
          exact ⟨ret_int (by rw [HT.out]), H, by rw [HT.out]; exact h, Turned.refl _ _ _⟩
        · have HT : Hid (takeKeywordF d x = (0, { d with kind := 8 })) := by show takeKeywordF d x = _; simp only [takeKeywordF, e102, e101, e97, e112]; simp
          have HK := h.kind o ho 8
          go_enter Try.func51, Try.ntmps51
          go_wp2
          go_ret
          exact ⟨ret_int (by rw [HT.out]), H, by rw [HT.out]; exact HK.out.1, HK.out.2⟩
      · have HT : Hid (takeKeywordF d x = (0, { d with kind := 7 })) := by show takeKeywordF d x = _; simp only [takeKeywordF, e102, e101, e97]; simp
        have HK := h.kind o ho 7
        go_enter Try.func51, Try.ntmps51
        go_wp2
        go_ret
        exact ⟨ret_int (by rw [HT.out]), H, by rw [HT.out]; exact HK.out.1, HK.out.2⟩
    · have HT : Hid (takeKeywordF d x = (0, { d with kind := 6 })) := by show takeKeywordF d x = _; simp only [takeKeywordF, e102, e101]; simp
      have HK := h.kind o ho 6
      go_enter Try.func51, Try.ntmps51
      go_wp2
      go_ret
      exact ⟨ret_int (by rw [HT.out]), H, by rw [HT.out]; exact HK.out.1, HK.out.2⟩
  · have HT : Hid (takeKeywordF d x = (0, { d with kind := 5 })) := by show takeKeywordF d x = _; simp only [takeKeywordF, e102]; simp
    have HK := h.kind o ho 5
    go_enter Try.func51, Try.ntmps51
    go_wp2
    go_ret
    exact ⟨ret_int (by rw [HT.out]), H, by rw [HT.out]; exact HK.out.1, HK.out.2⟩

set_option maxHeartbeats 1000000 in
set_option maxRecDepth 100000 in
theorem beginProof_any (b t o : Nat) (pre post : List Value) (d : Db) (H : Nat → Hd) (w : World) (h : DbIs w b t pre post d H) (ho : pre.length = o) :
    Calls Try.prog 53 #[.pointer (some ⟨b, o, none⟩)] w fun e w' => e = .returned (.int .i64 (beginProofF d).1) ∧ ∃ H', DbIs w' b t pre post (beginProofF d).2 H' ∧ Turned b w H w' H' := by
  obtain ⟨q0, q1, q2, q3, q4, q5, q6, q7, q8⟩ := h.cells o ho
  have hfr := h.free
  by_cases hz : d.symbols.length = 0
  · have HT : Hid (beginProofF d = (15, d)) := by show beginProofF d = _; simp only [beginProofF, hz]; simp
    have hz1 : ((d.symbols.length : Int) == 0) = true := by simp [hz]
    clear hz
    go_enter Try.func53, Try.ntmps53
    go_wp2
    go_ret
    exact ⟨ret_int (by rw [HT.out]), H, by rw [HT.out]; exact h, Turned.refl _ _ _⟩
  · have HT : Hid (beginProofF d = (0, { d with inProof := true })) := by show beginProofF d = _; simp only [beginProofF, hz]; simp
    have hz1 : ((d.symbols.length : Int) == 0) = false := beq_eq_false_iff_ne.2 (by omega)
    have HK := h.proof o ho true
    clear hz
    go_enter Try.func53, Try.ntmps53
    go_wp2
    go_ret
    exact ⟨ret_int (by rw [HT.out]), H, by rw [HT.out]; exact HK.out.1, HK.out.2⟩

set_option maxHeartbeats 1000000 in
set_option maxRecDepth 100000 in
theorem takeLabel_any (b t o : Nat) (pre post : List Value) (d : Db) (H : Nat → Hd) (x : ByteArray) (w : World) (h : DbIs w b t pre post d H) (ho : pre.length = o) (hs : Small d 100000000) (hx : x.size ≤ 1073741824) :
    Calls Try.prog 57 #[.pointer (some ⟨b, o, none⟩), .string x] w fun e w' => e = .returned (.int .i64 (takeLabelF d x).1) ∧ ∃ H', DbIs w' b t pre post (takeLabelF d x).2 H' ∧ Turned b w H w' H' := by
  obtain ⟨q0, q1, q2, q3, q4, q5, q6, q7, q8⟩ := h.cells o ho
  have hfr := h.free
  cases h1 : dollarF x
  · cases h2 : isLabelF x
    · have HT : Hid (takeLabelF d x = (12, d)) := by show takeLabelF d x = _; simp [takeLabelF, h1, h2]
      go_enter Try.func57, Try.ntmps57
      go_wp2_with (first | (go_at_call 49; refine (dollar_any x _ hx).mono ?_; rintro e w1 ⟨rfl, rfl⟩) | (go_at_call 68; refine (isLabel_any x _ hx).mono ?_; rintro e w1 ⟨rfl, rfl⟩) | (go_at_call 61; refine (isTaken_any b t o pre post d H x _ (by exact h) ho (hs.mono (by omega))).mono ?_; rintro e w1 ⟨rfl, rfl⟩))
      go_ret
      exact ⟨ret_int (by rw [HT.out]), H, by rw [HT.out]; exact h, Turned.refl _ _ _⟩
    · cases h3 : isTakenF d x
      · have HT : Hid (takeLabelF d x = (0, { d with labels := d.labels ++ [x], kind := 1 })) := by show takeLabelF d x = _; simp [takeLabelF, h1, h2, h3]
        have hll := hs.labels
        go_enter Try.func57, Try.ntmps57
        go_wp2_with (first | (go_at_call 49; refine (dollar_any x _ hx).mono ?_; rintro e w1 ⟨rfl, rfl⟩) | (go_at_call 68; refine (isLabel_any x _ hx).mono ?_; rintro e w1 ⟨rfl, rfl⟩) | (go_at_call 61; refine (isTaken_any b t o pre post d H x _ (by exact h) ho (hs.mono (by omega))).mono ?_; rintro e w1 ⟨rfl, rfl⟩))
        refine (addLabel_any b t o pre post d H x _ (by exact h) ho (by omega)).mono ?_
        rintro e w2 ⟨rfl, H2, D2, T2⟩
        have HK := D2.kind o ho 1
        clear q0 q1 q2 q3 q4 q5 q6 q7 q8 hfr
        obtain ⟨q0, q1, q2, q3, q4, q5, q6, q7, q8⟩ := D2.cells o ho
        have hfr := D2.free
        go_wp2
        go_ret
        exact ⟨ret_int (by rw [HT.out]), H2, by rw [HT.out]; exact HK.out.1, T2.trans HK.out.2⟩
      · have HT : Hid (takeLabelF d x = (13, d)) := by show takeLabelF d x = _; simp [takeLabelF, h1, h2, h3]
        go_enter Try.func57, Try.ntmps57
        go_wp2_with (first | (go_at_call 49; refine (dollar_any x _ hx).mono ?_; rintro e w1 ⟨rfl, rfl⟩) | (go_at_call 68; refine (isLabel_any x _ hx).mono ?_; rintro e w1 ⟨rfl, rfl⟩) | (go_at_call 61; refine (isTaken_any b t o pre post d H x _ (by exact h) ho (hs.mono (by omega))).mono ?_; rintro e w1 ⟨rfl, rfl⟩))
        go_ret
        exact ⟨ret_int (by rw [HT.out]), H, by rw [HT.out]; exact h, Turned.refl _ _ _⟩
  · have HT : Hid (takeLabelF d x = (8, d)) := by show takeLabelF d x = _; simp [takeLabelF, h1]
    go_enter Try.func57, Try.ntmps57
    go_wp2_with (first | (go_at_call 49; refine (dollar_any x _ hx).mono ?_; rintro e w1 ⟨rfl, rfl⟩) | (go_at_call 68; refine (isLabel_any x _ hx).mono ?_; rintro e w1 ⟨rfl, rfl⟩) | (go_at_call 61; refine (isTaken_any b t o pre post d H x _ (by exact h) ho (hs.mono (by omega))).mono ?_; rintro e w1 ⟨rfl, rfl⟩))
    go_ret
    exact ⟨ret_int (by rw [HT.out]), H, by rw [HT.out]; exact h, Turned.refl _ _ _⟩


end Go.Proofs.Ytkblmflajfomaaa
