/- Our texts: Db12, Db13, Db14, Db15, Db16, ReadF. -/
import Derived.Test.YtcipkfhpcbddiaaGreatG03
import Derived.Test.YtcipkfhpcbddiaaGreatG07
/- Package statements: which rule a symbol breaks. -/
namespace Go.Proofs.YtcipkfhpcbddiaaGreat
open Go.RowKit

def checkDisjointF (d : Db) (x : ByteArray) : Int := if hasF d.active x = false then 18 else if hasF d.symbols x = true then 19 else 0
def checkTypecodeF (d : Db) (x : ByteArray) : Int := if hasF d.constants x = false then 17 else 0
def checkFloatingF (d : Db) (x : ByteArray) : Int := if 1 < d.symbols.length then 16 else if hasF d.active x = false then 18 else if hasF d.typed x = true then 20 else 0
def checkExpressionF (d : Db) (x : ByteArray) : Int := if hasF d.constants x = true then 0 else if hasF d.active x = false then 21 else if hasF d.typed x = false then 22 else 0
def checkSymbolF (d : Db) (x : ByteArray) : Int :=
  if (d.kind == 7) = true then (if hasF d.symbols x = true ∨ isTakenF d x = true then 13 else 0)
  else if (d.kind == 8) = true then (if hasF d.symbols x = true ∨ isTakenVF d x = true then 13 else 0)
  else if (d.kind == 1) = true then checkDisjointF d x
  else if d.symbols.length = 0 then checkTypecodeF d x
  else if (d.kind == 2) = true then checkFloatingF d x
  else checkExpressionF d x

set_option maxHeartbeats 1000000 in
theorem checkDisjoint_any (b t o : Nat) (pre post : List Value) (d : Db) (H : Nat → Hd) (x : ByteArray) (w : World) (h : DbIs w b t pre post d H) (ho : pre.length = o) (hs : Small d 1073741824) :
    Calls Tryz.prog 119 #[.pointer (some ⟨b, o, none⟩), .string x] w fun e w' => e = .returned (.int .i64 (checkDisjointF d x)) ∧ w' = w := by
  obtain ⟨q0, q1, q2, q3, q4, q5, q6, q7, q8, q9, q10, q11, q12⟩ := h.cells o ho
  have hsl := hs.symbols
  cases h1 : hasF d.active x <;> cases h2 : hasF d.symbols x
  all_goals
    go_enter Tryz.func119, Tryz.ntmps119
    go_wp2_with (first | (go_at_call 134; refine (isActive_any b t o pre post d H x _ (by exact h) ho hs.active).mono ?_; rintro e w1 ⟨rfl, rfl⟩) | (go_at_call 116; refine (has_any (H 8) d.symbols x _ (by exact h.own 8) hs.symbols).mono ?_; rintro e w1 ⟨rfl, rfl⟩))
    go_ret
    exact ⟨ret_int (by simp [checkDisjointF, h1, h2]), rfl⟩

set_option maxHeartbeats 1000000 in
theorem checkTypecode_any (b t o : Nat) (pre post : List Value) (d : Db) (H : Nat → Hd) (x : ByteArray) (w : World) (h : DbIs w b t pre post d H) (ho : pre.length = o) (hs : Small d 1073741824) :
    Calls Tryz.prog 120 #[.pointer (some ⟨b, o, none⟩), .string x] w fun e w' => e = .returned (.int .i64 (checkTypecodeF d x)) ∧ w' = w := by
  obtain ⟨q0, q1, q2, q3, q4, q5, q6, q7, q8, q9, q10, q11, q12⟩ := h.cells o ho
  have hsl := hs.symbols
  cases h1 : hasF d.constants x
  all_goals
    go_enter Tryz.func120, Tryz.ntmps120
    go_wp2_with (first | (go_at_call 135; refine (isConstant_any b t o pre post d H x _ (by exact h) ho hs.constants).mono ?_; rintro e w1 ⟨rfl, rfl⟩))
    go_ret
    exact ⟨ret_int (by simp [checkTypecodeF, h1]), rfl⟩

set_option maxHeartbeats 1000000 in
theorem checkFloating_any (b t o : Nat) (pre post : List Value) (d : Db) (H : Nat → Hd) (x : ByteArray) (w : World) (h : DbIs w b t pre post d H) (ho : pre.length = o) (hs : Small d 1073741824) :
    Calls Tryz.prog 121 #[.pointer (some ⟨b, o, none⟩), .string x] w fun e w' => e = .returned (.int .i64 (checkFloatingF d x)) ∧ w' = w := by
  obtain ⟨q0, q1, q2, q3, q4, q5, q6, q7, q8, q9, q10, q11, q12⟩ := h.cells o ho
  have hsl := hs.symbols
  by_cases h0 : 1 < d.symbols.length
  · go_enter Tryz.func121, Tryz.ntmps121
    go_wp2_with (first | (go_at_call 134; refine (isActive_any b t o pre post d H x _ (by exact h) ho hs.active).mono ?_; rintro e w1 ⟨rfl, rfl⟩) | (go_at_call 136; refine (isTyped_any b t o pre post d H x _ (by exact h) ho hs.typed).mono ?_; rintro e w1 ⟨rfl, rfl⟩))
    go_ret
    exact ⟨ret_int (by simp [checkFloatingF, h0]), rfl⟩
  · cases h1 : hasF d.active x <;> cases h2 : hasF d.typed x
    all_goals
      go_enter Tryz.func121, Tryz.ntmps121
      go_wp2_with (first | (go_at_call 134; refine (isActive_any b t o pre post d H x _ (by exact h) ho hs.active).mono ?_; rintro e w1 ⟨rfl, rfl⟩) | (go_at_call 136; refine (isTyped_any b t o pre post d H x _ (by exact h) ho hs.typed).mono ?_; rintro e w1 ⟨rfl, rfl⟩))
      go_ret
      exact ⟨ret_int (by simp [checkFloatingF, h0, h1, h2]), rfl⟩

set_option maxHeartbeats 1000000 in
theorem checkExpression_any (b t o : Nat) (pre post : List Value) (d : Db) (H : Nat → Hd) (x : ByteArray) (w : World) (h : DbIs w b t pre post d H) (ho : pre.length = o) (hs : Small d 1073741824) :
    Calls Tryz.prog 122 #[.pointer (some ⟨b, o, none⟩), .string x] w fun e w' => e = .returned (.int .i64 (checkExpressionF d x)) ∧ w' = w := by
  obtain ⟨q0, q1, q2, q3, q4, q5, q6, q7, q8, q9, q10, q11, q12⟩ := h.cells o ho
  have hsl := hs.symbols
  cases h0 : hasF d.constants x
  · cases h1 : hasF d.active x <;> cases h2 : hasF d.typed x
    all_goals
      go_enter Tryz.func122, Tryz.ntmps122
      go_wp2_with (first | (go_at_call 135; refine (isConstant_any b t o pre post d H x _ (by exact h) ho hs.constants).mono ?_; rintro e w1 ⟨rfl, rfl⟩) | (go_at_call 134; refine (isActive_any b t o pre post d H x _ (by exact h) ho hs.active).mono ?_; rintro e w1 ⟨rfl, rfl⟩) | (go_at_call 136; refine (isTyped_any b t o pre post d H x _ (by exact h) ho hs.typed).mono ?_; rintro e w1 ⟨rfl, rfl⟩))
      go_ret
      exact ⟨ret_int (by simp [checkExpressionF, h0, h1, h2]), rfl⟩
  · go_enter Tryz.func122, Tryz.ntmps122
    go_wp2_with (first | (go_at_call 135; refine (isConstant_any b t o pre post d H x _ (by exact h) ho hs.constants).mono ?_; rintro e w1 ⟨rfl, rfl⟩) | (go_at_call 134; refine (isActive_any b t o pre post d H x _ (by exact h) ho hs.active).mono ?_; rintro e w1 ⟨rfl, rfl⟩) | (go_at_call 136; refine (isTyped_any b t o pre post d H x _ (by exact h) ho hs.typed).mono ?_; rintro e w1 ⟨rfl, rfl⟩))
    go_ret
    exact ⟨ret_int (by simp [checkExpressionF, h0]), rfl⟩

set_option maxHeartbeats 1000000 in
theorem checkSymbol_any (b t o : Nat) (pre post : List Value) (d : Db) (H : Nat → Hd) (x : ByteArray) (w : World) (h : DbIs w b t pre post d H) (ho : pre.length = o) (hs : Small d 1073741824) :
    Calls Tryz.prog 101 #[.pointer (some ⟨b, o, none⟩), .string x] w fun e w' => e = .returned (.int .i64 (checkSymbolF d x)) ∧ w' = w := by
  obtain ⟨q0, q1, q2, q3, q4, q5, q6, q7, q8, q9, q10, q11, q12⟩ := h.cells o ho
  have hsl := hs.symbols
  cases k2 : (d.kind == 7)
  · cases k3 : (d.kind == 8)
    · cases k4 : (d.kind == 1)
      · by_cases hz : d.symbols.length = 0
        · have HT : Hid (checkSymbolF d x = checkTypecodeF d x) := by show checkSymbolF d x = _; simp only [checkSymbolF, k2, k3, k4, hz]; simp
          have hz1 : ((d.symbols.length : Int) == 0) = true := by simp [hz]
          clear hz
          go_enter Tryz.func101, Tryz.ntmps101
          go_wp2_with (first | (go_at_call 120; refine (checkTypecode_any b t o pre post d H x _ (by exact h) ho hs).mono ?_; rintro e w1 ⟨rfl, rfl⟩))
          go_ret
          exact ⟨ret_int (by rw [HT.out]), rfl⟩
        · have hz1 : ((d.symbols.length : Int) == 0) = false := beq_eq_false_iff_ne.2 (by omega)
          cases k5 : (d.kind == 2)
          · have HT : Hid (checkSymbolF d x = checkExpressionF d x) := by show checkSymbolF d x = _; simp [checkSymbolF, k2, k3, k4, k5, hz]
            clear hz
            go_enter Tryz.func101, Tryz.ntmps101
            go_wp2_with (first | (go_at_call 122; refine (checkExpression_any b t o pre post d H x _ (by exact h) ho hs).mono ?_; rintro e w1 ⟨rfl, rfl⟩))
            go_ret
            exact ⟨ret_int (by rw [HT.out]), rfl⟩
          · have HT : Hid (checkSymbolF d x = checkFloatingF d x) := by show checkSymbolF d x = _; simp [checkSymbolF, k2, k3, k4, k5, hz]
            clear hz
            go_enter Tryz.func101, Tryz.ntmps101
            go_wp2_with (first | (go_at_call 121; refine (checkFloating_any b t o pre post d H x _ (by exact h) ho hs).mono ?_; rintro e w1 ⟨rfl, rfl⟩))
            go_ret
            exact ⟨ret_int (by rw [HT.out]), rfl⟩
      · have HT : Hid (checkSymbolF d x = checkDisjointF d x) := by show checkSymbolF d x = _; simp [checkSymbolF, k2, k3, k4]
        go_enter Tryz.func101, Tryz.ntmps101
        go_wp2_with (first | (go_at_call 119; refine (checkDisjoint_any b t o pre post d H x _ (by exact h) ho hs).mono ?_; rintro e w1 ⟨rfl, rfl⟩))
        go_ret
        exact ⟨ret_int (by rw [HT.out]), rfl⟩
    · cases h1 : hasF d.symbols x <;> cases h2 : isTakenVF d x
      all_goals
        go_enter Tryz.func101, Tryz.ntmps101
        go_wp2_with (first | (go_at_call 116; refine (has_any (H 8) d.symbols x _ (by exact h.own 8) hs.symbols).mono ?_; rintro e w1 ⟨rfl, rfl⟩) | (go_at_call 118; refine (isTakenV_any b t o pre post d H x _ (by exact h) ho hs).mono ?_; rintro e w1 ⟨rfl, rfl⟩))
        go_ret
        exact ⟨ret_int (by simp [checkSymbolF, k2, k3, h1, h2]), rfl⟩
  · cases h1 : hasF d.symbols x <;> cases h2 : isTakenF d x
    all_goals
      go_enter Tryz.func101, Tryz.ntmps101
      go_wp2_with (first | (go_at_call 116; refine (has_any (H 8) d.symbols x _ (by exact h.own 8) hs.symbols).mono ?_; rintro e w1 ⟨rfl, rfl⟩) | (go_at_call 117; refine (isTaken_any b t o pre post d H x _ (by exact h) ho hs).mono ?_; rintro e w1 ⟨rfl, rfl⟩))
      go_ret
      exact ⟨ret_int (by simp [checkSymbolF, k2, h1, h2]), rfl⟩

end Go.Proofs.YtcipkfhpcbddiaaGreat

/- Package statements: one word more. -/
namespace Go.Proofs.YtcipkfhpcbddiaaGreat
open Go.RowKit

theorem Small.mono {d : Db} {N M : Nat} (h : Small d N) (hl : N ≤ M) : Small d M :=
  ⟨Nat.le_trans h.labels hl, Nat.le_trans h.constants hl, Nat.le_trans h.variables hl, Nat.le_trans h.active hl, Nat.le_trans h.typed hl, Nat.le_trans h.blocks hl, Nat.le_trans h.sts hl, Nat.le_trans h.rbl hl, Nat.le_trans h.symbols hl, Nat.le_trans h.proof hl⟩

theorem DbIs.kind {w : World} {b t : Nat} {pre post : List Value} {d : Db} {H : Nat → Hd} (h : DbIs w b t pre post d H) (o : Nat) (ho : pre.length = o) (k : Int) :
    Hid (DbIs (w.setCell ⟨b, o + 8, none⟩ (.int .i64 k)) b t pre post { d with kind := k } H ∧ Turned b w H (w.setCell ⟨b, o + 8, none⟩ (.int .i64 k)) H) :=
  h.set (d' := { d with kind := k }) o 8 ho (rows_kind d H k) _ (by omega) rfl
theorem DbIs.lab {w : World} {b t : Nat} {pre post : List Value} {d : Db} {H : Nat → Hd} (h : DbIs w b t pre post d H) (o : Nat) (ho : pre.length = o) (k : ByteArray) :
    Hid (DbIs (w.setCell ⟨b, o + 9, none⟩ (.string k)) b t pre post { d with label := k } H ∧ Turned b w H (w.setCell ⟨b, o + 9, none⟩ (.string k)) H) :=
  h.set (d' := { d with label := k }) o 9 ho (rows_label d H k) _ (by omega) rfl
theorem DbIs.inProof {w : World} {b t : Nat} {pre post : List Value} {d : Db} {H : Nat → Hd} (h : DbIs w b t pre post d H) (o : Nat) (ho : pre.length = o) (k : Bool) :
    Hid (DbIs (w.setCell ⟨b, o + 11, none⟩ (.bool k)) b t pre post { d with inProof := k } H ∧ Turned b w H (w.setCell ⟨b, o + 11, none⟩ (.bool k)) H) :=
  h.set (d' := { d with inProof := k }) o 11 ho (rows_inProof d H k) _ (by omega) rfl
theorem DbIs.forget {w : World} {b t : Nat} {pre post : List Value} {d : Db} {H : Nat → Hd} (h : DbIs w b t pre post d H) (o : Nat) (ho : pre.length = o) :
    DbIs (w.setCell ⟨b, o + 10, none⟩ (.slice none 0 0)) b t pre post { d with symbols := [] } (upd H 8 ⟨none, 0⟩) ∧ Turned b w H (w.setCell ⟨b, o + 10, none⟩ (.slice none 0 0)) (upd H 8 ⟨none, 0⟩) :=
  h.put (d' := { d with symbols := [] }) o 10 ho 8 (by omega) ⟨none, 0⟩ ⟨by simp [rowsOf, rowS, strs], Or.inl ⟨by simp [rowsOf, rowS], by simp [rowsOf, rowS]⟩⟩ (World.grownBy.refl _ _) (Or.inl rfl) (rows_symbols d H []) _ (by omega) (by simp [dbList, upd])
theorem DbIs.noProof {w : World} {b t : Nat} {pre post : List Value} {d : Db} {H : Nat → Hd} (h : DbIs w b t pre post d H) (o : Nat) (ho : pre.length = o) :
    DbIs (w.setCell ⟨b, o + 12, none⟩ (.slice none 0 0)) b t pre post { d with proof := [] } (upd H 9 ⟨none, 0⟩) ∧ Turned b w H (w.setCell ⟨b, o + 12, none⟩ (.slice none 0 0)) (upd H 9 ⟨none, 0⟩) :=
  h.put (d' := { d with proof := [] }) o 12 ho 9 (by omega) ⟨none, 0⟩ ⟨by simp [rowsOf, rowW, wordsV], Or.inl ⟨by simp [rowsOf, rowW], by simp [rowsOf, rowW]⟩⟩ (World.grownBy.refl _ _) (Or.inl rfl) (rows_proof d H []) _ (by omega) (by simp [dbList, upd])

def takeKeywordF (d : Db) (x : ByteArray) : Int × Db :=
  if (x.toList == [36, 102]) = true then (0, { d with kind := 2 })
  else if (x.toList == [36, 101]) = true then (0, { d with kind := 3 })
  else if (x.toList == [36, 97]) = true then (0, { d with kind := 4 })
  else if (x.toList == [36, 112]) = true then (0, { d with kind := 5 })
  else (14, d)
def beginProofF (d : Db) : Int × Db := if d.symbols.length = 0 then (15, d) else (0, { d with inProof := true })
def takeLabelF (d : Db) (x : ByteArray) : Int × Db :=
  if dollarF x = true then (8, d) else if isLabelF x = false then (12, d) else if isTakenF d x = true then (13, d)
  else (0, { d with labels := d.labels ++ [x], label := x, kind := 6 })
def endF (d : Db) (p : Pl) : Int × Db :=
  if (d.symbols.length : Int) < leastF d then (15, d)
  else if (d.kind == 5) = true ∧ d.inProof = false then (23, d)
  else (0, { declareF d p with kind := 0, label := ⟨#[]⟩, symbols := [], inProof := false, proof := [] })
/-- The innermost block ends: of the names and of the record. -/
def endBothF (d : Db) (q : Nat × Nat) : Db :=
  match d.rbl.getLast? with
  | none => endBlockF d d.blocks.dropLast q
  | some x => { endBlockF d d.blocks.dropLast q with rbl := d.rbl.dropLast, sts := endSts d.sts x }
def takeFirstF (d : Db) (x : ByteArray) : Int × Db :=
  if (x.toList == [36, 123]) = true then (0, { d with blocks := d.blocks ++ [(d.active.length, d.typed.length)], rbl := d.rbl ++ [d.sts.length] })
  else if (x.toList == [36, 125]) = true then (match d.blocks.getLast? with | none => (9, d) | some p => (0, endBothF d p))
  else if (x.toList == [36, 99]) = true then (if 0 < d.blocks.length then (10, d) else (0, { d with kind := 7 }))
  else if (x.toList == [36, 118]) = true then (0, { d with kind := 8 })
  else if (x.toList == [36, 100]) = true then (0, { d with kind := 1 })
  else if (x.toList == [36, 102]) = true ∨ (x.toList == [36, 101]) = true ∨ (x.toList == [36, 97]) = true ∨ (x.toList == [36, 112]) = true then (11, d)
  else takeLabelF d x
/-- Take: the rule that the word breaks, or 0; the database behind it. -/
def takeF (d : Db) (x : ByteArray) (p : Pl) : Int × Db :=
  if (d.kind == 0) = true then takeFirstF d x
  else if (d.kind == 6) = true then takeKeywordF d x
  else if (x.toList == [36, 46]) = true then endF d p
  else if (x.toList == [36, 61]) = true ∧ (d.kind == 5) = true ∧ d.inProof = false then beginProofF d
  else if dollarF x = true then (8, d)
  else if d.inProof = true then (0, { d with proof := d.proof ++ [(x, p)] })
  else if (checkSymbolF d x == 0) = true then (0, { d with symbols := d.symbols ++ [x] })
  else (checkSymbolF d x, d)

set_option maxHeartbeats 1000000 in
set_option maxRecDepth 100000 in
theorem takeKeyword_any (b t o : Nat) (pre post : List Value) (d : Db) (H : Nat → Hd) (x : ByteArray) (w : World) (h : DbIs w b t pre post d H) (ho : pre.length = o) :
    Calls Tryz.prog 98 #[.pointer (some ⟨b, o, none⟩), .string x] w fun e w' => e = .returned (.int .i64 (takeKeywordF d x).1) ∧ ∃ H', DbIs w' b t pre post (takeKeywordF d x).2 H' ∧ Turned b w H w' H' := by
  obtain ⟨q0, q1, q2, q3, q4, q5, q6, q7, q8, q9, q10, q11, q12⟩ := h.cells o ho
  have hfr := h.free
  cases e102 : (x.toList == [36, 102])
  · cases e101 : (x.toList == [36, 101])
    · cases e97 : (x.toList == [36, 97])
      · cases e112 : (x.toList == [36, 112])
        · have HT : Hid (takeKeywordF d x = (14, d)) := by show takeKeywordF d x = _; simp only [takeKeywordF, e102, e101, e97, e112]; simp
          go_enter Tryz.func98, Tryz.ntmps98
          go_wp2
          go_ret
          exact ⟨ret_int (by rw [HT.out]), H, by rw [HT.out]; exact h, Turned.refl _ _ _⟩
        · have HT : Hid (takeKeywordF d x = (0, { d with kind := 5 })) := by show takeKeywordF d x = _; simp only [takeKeywordF, e102, e101, e97, e112]; simp
          have HK := h.kind o ho 5
          go_enter Tryz.func98, Tryz.ntmps98
          go_wp2
          go_ret
          exact ⟨ret_int (by rw [HT.out]), H, by rw [HT.out]; exact HK.out.1, HK.out.2⟩
      · have HT : Hid (takeKeywordF d x = (0, { d with kind := 4 })) := by show takeKeywordF d x = _; simp only [takeKeywordF, e102, e101, e97]; simp
        have HK := h.kind o ho 4
        go_enter Tryz.func98, Tryz.ntmps98
        go_wp2
        go_ret
        exact ⟨ret_int (by rw [HT.out]), H, by rw [HT.out]; exact HK.out.1, HK.out.2⟩
    · have HT : Hid (takeKeywordF d x = (0, { d with kind := 3 })) := by show takeKeywordF d x = _; simp only [takeKeywordF, e102, e101]; simp
      have HK := h.kind o ho 3
      go_enter Tryz.func98, Tryz.ntmps98
      go_wp2
      go_ret
      exact ⟨ret_int (by rw [HT.out]), H, by rw [HT.out]; exact HK.out.1, HK.out.2⟩
  · have HT : Hid (takeKeywordF d x = (0, { d with kind := 2 })) := by show takeKeywordF d x = _; simp only [takeKeywordF, e102]; simp
    have HK := h.kind o ho 2
    go_enter Tryz.func98, Tryz.ntmps98
    go_wp2
    go_ret
    exact ⟨ret_int (by rw [HT.out]), H, by rw [HT.out]; exact HK.out.1, HK.out.2⟩

set_option maxHeartbeats 1000000 in
set_option maxRecDepth 100000 in
theorem beginProof_any (b t o : Nat) (pre post : List Value) (d : Db) (H : Nat → Hd) (w : World) (h : DbIs w b t pre post d H) (ho : pre.length = o) :
    Calls Tryz.prog 100 #[.pointer (some ⟨b, o, none⟩)] w fun e w' => e = .returned (.int .i64 (beginProofF d).1) ∧ ∃ H', DbIs w' b t pre post (beginProofF d).2 H' ∧ Turned b w H w' H' := by
  obtain ⟨q0, q1, q2, q3, q4, q5, q6, q7, q8, q9, q10, q11, q12⟩ := h.cells o ho
  have hfr := h.free
  by_cases hz : d.symbols.length = 0
  · have HT : Hid (beginProofF d = (15, d)) := by show beginProofF d = _; simp only [beginProofF, hz]; simp
    have hz1 : ((d.symbols.length : Int) == 0) = true := by simp [hz]
    clear hz
    go_enter Tryz.func100, Tryz.ntmps100
    go_wp2
    go_ret
    exact ⟨ret_int (by rw [HT.out]), H, by rw [HT.out]; exact h, Turned.refl _ _ _⟩
  · have HT : Hid (beginProofF d = (0, { d with inProof := true })) := by show beginProofF d = _; simp only [beginProofF, hz]; simp
    have hz1 : ((d.symbols.length : Int) == 0) = false := beq_eq_false_iff_ne.2 (by omega)
    have HK := h.inProof o ho true
    clear hz
    go_enter Tryz.func100, Tryz.ntmps100
    go_wp2
    go_ret
    exact ⟨ret_int (by rw [HT.out]), H, by rw [HT.out]; exact HK.out.1, HK.out.2⟩

set_option maxHeartbeats 1000000 in
set_option maxRecDepth 100000 in
theorem takeLabel_any (b t o : Nat) (pre post : List Value) (d : Db) (H : Nat → Hd) (x : ByteArray) (w : World) (h : DbIs w b t pre post d H) (ho : pre.length = o) (hs : Small d 100000000) (hx : x.size ≤ 1073741824) :
    Calls Tryz.prog 113 #[.pointer (some ⟨b, o, none⟩), .string x] w fun e w' => e = .returned (.int .i64 (takeLabelF d x).1) ∧ ∃ H', DbIs w' b t pre post (takeLabelF d x).2 H' ∧ Turned b w H w' H' := by
  obtain ⟨q0, q1, q2, q3, q4, q5, q6, q7, q8, q9, q10, q11, q12⟩ := h.cells o ho
  have hfr := h.free
  cases h1 : dollarF x
  · cases h2 : isLabelF x
    · have HT : Hid (takeLabelF d x = (12, d)) := by show takeLabelF d x = _; simp [takeLabelF, h1, h2]
      go_enter Tryz.func113, Tryz.ntmps113
      go_wp2_with (first | (go_at_call 96; refine (dollar_any x _ hx).mono ?_; rintro e w1 ⟨rfl, rfl⟩) | (go_at_call 128; refine (isLabel_any x _ hx).mono ?_; rintro e w1 ⟨rfl, rfl⟩) | (go_at_call 117; refine (isTaken_any b t o pre post d H x _ (by exact h) ho (hs.mono (by omega))).mono ?_; rintro e w1 ⟨rfl, rfl⟩))
      go_ret
      exact ⟨ret_int (by rw [HT.out]), H, by rw [HT.out]; exact h, Turned.refl _ _ _⟩
    · cases h3 : isTakenF d x
      · have HT : Hid (takeLabelF d x = (0, { d with labels := d.labels ++ [x], label := x, kind := 6 })) := by show takeLabelF d x = _; simp [takeLabelF, h1, h2, h3]
        have hll := hs.labels
        go_enter Tryz.func113, Tryz.ntmps113
        go_wp2_with (first | (go_at_call 96; refine (dollar_any x _ hx).mono ?_; rintro e w1 ⟨rfl, rfl⟩) | (go_at_call 128; refine (isLabel_any x _ hx).mono ?_; rintro e w1 ⟨rfl, rfl⟩) | (go_at_call 117; refine (isTaken_any b t o pre post d H x _ (by exact h) ho (hs.mono (by omega))).mono ?_; rintro e w1 ⟨rfl, rfl⟩))
        refine (addLabel_any b t o pre post d H x _ (by exact h) ho (by omega)).mono ?_
        rintro e w2 ⟨rfl, H2, D2, T2⟩
        have HL := D2.lab o ho x
        have HK := HL.out.1.kind o ho 6
        clear q0 q1 q2 q3 q4 q5 q6 q7 q8 q9 q10 q11 q12 hfr
        obtain ⟨q0, q1, q2, q3, q4, q5, q6, q7, q8, q9, q10, q11, q12⟩ := D2.cells o ho
        have hfr := D2.free
        go_wp2
        go_ret
        exact ⟨ret_int (by rw [HT.out]), H2, by rw [HT.out]; exact HK.out.1, T2.trans (HL.out.2.trans HK.out.2)⟩
      · have HT : Hid (takeLabelF d x = (13, d)) := by show takeLabelF d x = _; simp [takeLabelF, h1, h2, h3]
        go_enter Tryz.func113, Tryz.ntmps113
        go_wp2_with (first | (go_at_call 96; refine (dollar_any x _ hx).mono ?_; rintro e w1 ⟨rfl, rfl⟩) | (go_at_call 128; refine (isLabel_any x _ hx).mono ?_; rintro e w1 ⟨rfl, rfl⟩) | (go_at_call 117; refine (isTaken_any b t o pre post d H x _ (by exact h) ho (hs.mono (by omega))).mono ?_; rintro e w1 ⟨rfl, rfl⟩))
        go_ret
        exact ⟨ret_int (by rw [HT.out]), H, by rw [HT.out]; exact h, Turned.refl _ _ _⟩
  · have HT : Hid (takeLabelF d x = (8, d)) := by show takeLabelF d x = _; simp [takeLabelF, h1]
    go_enter Tryz.func113, Tryz.ntmps113
    go_wp2_with (first | (go_at_call 96; refine (dollar_any x _ hx).mono ?_; rintro e w1 ⟨rfl, rfl⟩) | (go_at_call 128; refine (isLabel_any x _ hx).mono ?_; rintro e w1 ⟨rfl, rfl⟩) | (go_at_call 117; refine (isTaken_any b t o pre post d H x _ (by exact h) ho (hs.mono (by omega))).mono ?_; rintro e w1 ⟨rfl, rfl⟩))
    go_ret
    exact ⟨ret_int (by rw [HT.out]), H, by rw [HT.out]; exact h, Turned.refl _ _ _⟩


end Go.Proofs.YtcipkfhpcbddiaaGreat

/- Package statements: a statement's end. -/
namespace Go.Proofs.YtcipkfhpcbddiaaGreat
open Go.RowKit

theorem least_pos (d : Db) : 1 ≤ leastF d := by unfold leastF; split <;> omega

set_option maxHeartbeats 2000000 in
set_option maxRecDepth 100000 in
theorem end_any (b t o : Nat) (pre post : List Value) (d : Db) (H : Nat → Hd) (f : ByteArray) (l c : Int) (w : World) (h : DbIs w b t pre post d H) (ho : pre.length = o) (hs : Small d 10000000) :
    Calls Tryz.prog 99 #[.pointer (some ⟨b, o, none⟩), .agg #[.string f, .int .i64 l, .int .i64 c]] w fun e w' => e = .returned (.int .i64 (endF d ⟨f, l, c⟩).1) ∧ ∃ H', DbIs w' b t pre post (endF d ⟨f, l, c⟩).2 H' ∧ Turned b w H w' H' := by
  obtain ⟨W, hW⟩ : ∃ W, W = w.alloc (.cells #[.string f, .int .i64 l, .int .i64 c] 39) := ⟨_, rfl⟩
  have K : Kept [] w W := by rw [hW]; exact (Kept.refl [] _).alloc _
  have D := h.still K
  have HW := (show Hid _ from hW.symm)
  have B : W.heap[w.heap.size]? = some (.cells #[.string f, .int .i64 l, .int .i64 c] 39 (0, 0)) := by rw [hW]; exact heap_alloc_new _ _
  have p0 : W.cell? ⟨w.heap.size, 0, none⟩ = some (.string f) := by rw [cell_of B]; rfl
  have p1 : W.cell? ⟨w.heap.size, 1, none⟩ = some (.int .i64 l) := by rw [cell_of B]; rfl
  have p2 : W.cell? ⟨w.heap.size, 2, none⟩ = some (.int .i64 c) := by rw [cell_of B]; rfl
  clear hW B h
  obtain ⟨q0, q1, q2, q3, q4, q5, q6, q7, q8, q9, q10, q11, q12⟩ := D.cells o ho
  clear q0 q1 q2 q3 q4 q5 q6 q7 q9 q12
  have hfr := D.free
  by_cases hlt : (d.symbols.length : Int) < leastF d
  · have HT : Hid (endF d ⟨f, l, c⟩ = (15, d)) := by show endF d ⟨f, l, c⟩ = _; simp only [endF, if_pos hlt]
    go_enter Tryz.func99, Tryz.ntmps99
    go_upto_region 1 with fail
    rw [HW.out]
    go_quiet ((go_at_call 114; exact Calls.quiet_of_same (least_any b t o pre post d H _ (D.still ((Kept.refl [] W).drewN _)) ho)))
    go_wp2
    go_ret
    exact ⟨ret_int (by rw [HT.out]), H, by rw [HT.out]; exact D.still ((Kept.refl [] _).drewN _), (Turned.refl _ _ _).still (K.drewN _)⟩
  · have hsp : Hid (0 < d.symbols.length) := by have := least_pos d; show 0 < _; omega
    by_cases hr : (d.kind == 5) = true ∧ d.inProof = false
    · have HT : Hid (endF d ⟨f, l, c⟩ = (23, d)) := by show endF d ⟨f, l, c⟩ = _; simp only [endF, if_neg hlt, if_pos hr]
      obtain ⟨k5, hp⟩ := hr
      rw [hp] at q11
      go_enter Tryz.func99, Tryz.ntmps99
      go_upto_region 1 with fail
      rw [HW.out]
      go_quiet ((go_at_call 114; exact Calls.quiet_of_same (least_any b t o pre post d H _ (D.still ((Kept.refl [] W).drewN _)) ho)))
      go_wp2
      go_ret
      exact ⟨ret_int (by rw [HT.out]), H, by rw [HT.out]; exact D.still ((Kept.refl [] _).drewN _), (Turned.refl _ _ _).still (K.drewN _)⟩
    · have HT : Hid (endF d ⟨f, l, c⟩ = (0, { declareF d ⟨f, l, c⟩ with kind := 0, label := ⟨#[]⟩, symbols := [], inProof := false, proof := [] })) := by show endF d ⟨f, l, c⟩ = _; simp only [endF, if_neg hlt, if_neg hr]
      have hp5 : (d.kind == 5) = true → d.inProof = true := by
        intro k5
        cases hq : d.inProof with
        | true => rfl
        | false => exact absurd ⟨k5, hq⟩ hr
      cases k5 : (d.kind == 5)
      all_goals
        try rw [hp5 k5] at q11
        clear hp5
        clear hr
        go_enter Tryz.func99, Tryz.ntmps99
        go_upto_region 1 with fail
        rw [HW.out]
        go_quiet ((go_at_call 114; exact Calls.quiet_of_same (least_any b t o pre post d H _ (D.still ((Kept.refl [] W).drewN _)) ho)))
        go_wp2_with fail
        refine (declare_any b t o pre post d H f l c _ (by exact D.still ((Kept.refl [] _).drewN _)) ho hsp.out hs).mono ?_
        rintro e w2 ⟨rfl, H2, D2, T2⟩
        have K1 := D2.kind o ho 0
        have K2 := K1.out.1.lab o ho ⟨#[]⟩
        have K3 := (show Hid _ from K2.out.1.forget o ho)
        have K4 := K3.out.1.inProof o ho false
        have K5 := (show Hid _ from K4.out.1.noProof o ho)
        clear q8 q10 q11 hfr p0 p1 p2
        obtain ⟨q0, q1, q2, q3, q4, q5, q6, q7, q8, q9, q10, q11, q12⟩ := D2.cells o ho
        clear q0 q1 q2 q3 q4 q5 q6 q7
        have hfr := D2.free
        go_wp2
        go_ret
        exact ⟨ret_int (by rw [HT.out]), _, by rw [HT.out]; exact K5.out.1, (T2.first (K.drewN _)).trans (K1.out.2.trans (K2.out.2.trans (K3.out.2.trans (K4.out.2.trans K5.out.2))))⟩

end Go.Proofs.YtcipkfhpcbddiaaGreat

/- Package statements: a statement's first word; Take. -/
namespace Go.Proofs.YtcipkfhpcbddiaaGreat
open Go.RowKit

theorem last_split {α : Type} {l : List α} {p : α} (h : l.getLast? = some p) : l = l.dropLast ++ [p] := by
  obtain ⟨ys, rfl⟩ := List.getLast?_eq_some_iff.1 h
  simp

/-- What the blocks remember is small, too; the record's blocks are as many. -/
structure Inner (d : Db) (N : Nat) : Prop where
  names : ∀ p, p ∈ d.blocks → p.1 ≤ N ∧ p.2 ≤ N
  same : d.rbl.length = d.blocks.length
  recs : ∀ x, x ∈ d.rbl → x ≤ d.sts.length

set_option maxHeartbeats 3000000 in
set_option maxRecDepth 100000 in
theorem takeFirst_any (b t o : Nat) (pre post : List Value) (d : Db) (H : Nat → Hd) (x : ByteArray) (w : World) (h : DbIs w b t pre post d H) (ho : pre.length = o) (hs1 : Small d 10000000) (hx : x.size ≤ 1073741824) (hi : Inner d 100000000) :
    Calls Tryz.prog 97 #[.pointer (some ⟨b, o, none⟩), .string x] w fun e w' => e = .returned (.int .i64 (takeFirstF d x).1) ∧ ∃ H', DbIs w' b t pre post (takeFirstF d x).2 H' ∧ Turned b w H w' H' := by
  have hs := hs1.mono (M := 100000000) (by omega)
  obtain ⟨q0, q1, q2, q3, q4, q5, q6, q7, q8, q9, q10, q11, q12⟩ := h.cells o ho
  have hfr := h.free
  cases e123 : (x.toList == [36, 123])
  · cases e125 : (x.toList == [36, 125])
    · cases e99 : (x.toList == [36, 99])
      · cases e118 : (x.toList == [36, 118])
        · cases e100 : (x.toList == [36, 100])
          · cases e102 : (x.toList == [36, 102])
            · cases e101 : (x.toList == [36, 101])
              · cases e97 : (x.toList == [36, 97])
                · cases e112 : (x.toList == [36, 112])
                  · have HT : Hid (takeFirstF d x = takeLabelF d x) := by show takeFirstF d x = _; simp only [takeFirstF, e123, e125, e99, e118, e100, e102, e101, e97, e112]; simp
                    go_enter Tryz.func97, Tryz.ntmps97
                    go_wp2_with fail
                    refine (takeLabel_any b t o pre post d H x _ (by exact h) ho hs hx).mono ?_
                    rintro e w2 ⟨rfl, H2, D2, T2⟩
                    go_wp2
                    go_ret
                    exact ⟨ret_int (by rw [HT.out]), H2, by rw [HT.out]; exact D2, T2⟩
                  · have HT : Hid (takeFirstF d x = (11, d)) := by show takeFirstF d x = _; simp only [takeFirstF, e123, e125, e99, e118, e100, e102, e101, e97, e112]; simp
                    go_enter Tryz.func97, Tryz.ntmps97
                    go_wp2
                    go_ret
                    exact ⟨ret_int (by rw [HT.out]), H, by rw [HT.out]; exact h, Turned.refl _ _ _⟩
                · have HT : Hid (takeFirstF d x = (11, d)) := by show takeFirstF d x = _; simp only [takeFirstF, e123, e125, e99, e118, e100, e102, e101, e97]; simp
                  go_enter Tryz.func97, Tryz.ntmps97
                  go_wp2
                  go_ret
                  exact ⟨ret_int (by rw [HT.out]), H, by rw [HT.out]; exact h, Turned.refl _ _ _⟩
              · have HT : Hid (takeFirstF d x = (11, d)) := by show takeFirstF d x = _; simp only [takeFirstF, e123, e125, e99, e118, e100, e102, e101]; simp
                go_enter Tryz.func97, Tryz.ntmps97
                go_wp2
                go_ret
                exact ⟨ret_int (by rw [HT.out]), H, by rw [HT.out]; exact h, Turned.refl _ _ _⟩
            · have HT : Hid (takeFirstF d x = (11, d)) := by show takeFirstF d x = _; simp only [takeFirstF, e123, e125, e99, e118, e100, e102]; simp
              go_enter Tryz.func97, Tryz.ntmps97
              go_wp2
              go_ret
              exact ⟨ret_int (by rw [HT.out]), H, by rw [HT.out]; exact h, Turned.refl _ _ _⟩
          · have HT : Hid (takeFirstF d x = (0, { d with kind := 1 })) := by show takeFirstF d x = _; simp only [takeFirstF, e123, e125, e99, e118, e100]; simp
            have HK := h.kind o ho 1
            go_enter Tryz.func97, Tryz.ntmps97
            go_wp2
            go_ret
            exact ⟨ret_int (by rw [HT.out]), H, by rw [HT.out]; exact HK.out.1, HK.out.2⟩
        · have HT : Hid (takeFirstF d x = (0, { d with kind := 8 })) := by show takeFirstF d x = _; simp only [takeFirstF, e123, e125, e99, e118]; simp
          have HK := h.kind o ho 8
          go_enter Tryz.func97, Tryz.ntmps97
          go_wp2
          go_ret
          exact ⟨ret_int (by rw [HT.out]), H, by rw [HT.out]; exact HK.out.1, HK.out.2⟩
      · by_cases hb0 : 0 < d.blocks.length
        · have HT : Hid (takeFirstF d x = (10, d)) := by show takeFirstF d x = _; simp only [takeFirstF, e123, e125, e99, hb0]; simp
          have hd0 : decide (0 < d.blocks.length) = true := by simpa using hb0
          clear hb0
          go_enter Tryz.func97, Tryz.ntmps97
          go_wp2_with (go_at_call 78; refine (inBlock_any b t o pre post d H _ (by exact h) ho).mono ?_; rintro e w1 ⟨rfl, rfl⟩)
          go_ret
          exact ⟨ret_int (by rw [HT.out]), H, by rw [HT.out]; exact h, Turned.refl _ _ _⟩
        · have HT : Hid (takeFirstF d x = (0, { d with kind := 7 })) := by show takeFirstF d x = _; simp only [takeFirstF, e123, e125, e99, hb0]; simp
          have hd0 : decide (0 < d.blocks.length) = false := by simpa using hb0
          have HK := h.kind o ho 7
          clear hb0
          go_enter Tryz.func97, Tryz.ntmps97
          go_wp2_with (go_at_call 78; refine (inBlock_any b t o pre post d H _ (by exact h) ho).mono ?_; rintro e w1 ⟨rfl, rfl⟩)
          go_ret
          exact ⟨ret_int (by rw [HT.out]), H, by rw [HT.out]; exact HK.out.1, HK.out.2⟩
    · rcases hbb : d.blocks.getLast? with _ | p
      · have hb0 : d.blocks = [] := by simpa using hbb
        have HT : Hid (takeFirstF d x = (9, d)) := by show takeFirstF d x = _; simp only [takeFirstF, e123, e125, hbb]; simp
        have hd0 : decide (0 < d.blocks.length) = false := by rw [hb0]; rfl
        clear hbb hb0
        go_enter Tryz.func97, Tryz.ntmps97
        go_wp2_with (go_at_call 78; refine (inBlock_any b t o pre post d H _ (by exact h) ho).mono ?_; rintro e w1 ⟨rfl, rfl⟩)
        go_ret
        exact ⟨ret_int (by rw [HT.out]), H, by rw [HT.out]; exact h, Turned.refl _ _ _⟩
      · have hb0 : d.blocks = d.blocks.dropLast ++ [p] := last_split hbb
        have HT : Hid (takeFirstF d x = (0, endBothF d p)) := by show takeFirstF d x = _; simp only [takeFirstF, e123, e125, hbb]; simp
        have hd0 : decide (0 < d.blocks.length) = true := by rw [hb0]; simp
        have HB : Hid (d.blocks = d.blocks.dropLast ++ [p]) := hb0
        have hp := hi.names p (by rw [hb0]; simp)
        have hne : d.rbl ≠ [] := by intro e; have := hi.same; rw [e, hb0] at this; simp at this
        obtain ⟨y, hy⟩ : ∃ y, d.rbl.getLast? = some y := ⟨_, List.getLast?_eq_some_getLast hne⟩
        have HR : Hid (d.rbl = d.rbl.dropLast ++ [y]) := last_split hy
        have hyl := hi.recs y (by rw [HR.out]; simp)
        have HE : Hid (endBothF d p = { endBlockF d d.blocks.dropLast p with rbl := d.rbl.dropLast, sts := endSts d.sts y }) := by show endBothF d p = _; unfold endBothF; rw [hy]
        have hs2 : Hid (Small (endBlockF d d.blocks.dropLast p) 100000000) := ⟨hs.labels, hs.constants, hs.variables, by have := hs.active; simp only [endBlockF, List.length_take]; omega, by have := hs.typed; simp only [endBlockF, List.length_take]; omega, by have := hs.blocks; simp only [endBlockF, List.length_dropLast]; omega, hs.sts, hs.rbl, hs.symbols, hs.proof⟩
        clear hbb hb0 hne hy
        go_enter Tryz.func97, Tryz.ntmps97
        go_wp2_with (go_at_call 78; refine (inBlock_any b t o pre post d H _ (by exact h) ho).mono ?_; rintro e w1 ⟨rfl, rfl⟩)
        refine (endBlock_any b t o pre post d H d.blocks.dropLast p _ (by exact h) ho HB.out (hs.mono (by omega)) ⟨by omega, by omega⟩).mono ?_
        rintro e w2 ⟨rfl, D2, T2⟩
        go_wp2_with fail
        refine (recEnd_any b t o pre post (endBlockF d d.blocks.dropLast p) H d.rbl.dropLast y _ (by exact D2) ho HR.out hs2.out hyl).mono ?_
        rintro e w3 ⟨rfl, D3, T3⟩
        go_wp2
        go_ret
        exact ⟨ret_int (by rw [HT.out]), H, by rw [HT.out, HE.out]; exact D3, T2.trans T3⟩
  · have HT : Hid (takeFirstF d x = (0, { d with blocks := d.blocks ++ [(d.active.length, d.typed.length)], rbl := d.rbl ++ [d.sts.length] })) := by show takeFirstF d x = _; simp only [takeFirstF, e123]; simp
    have hbl := hs.blocks
    have hs2 : Hid (Small { d with blocks := d.blocks ++ [(d.active.length, d.typed.length)] } 100000000) := ⟨hs.labels, hs.constants, hs.variables, hs.active, hs.typed, by have := hs1.blocks; simp; omega, hs.sts, hs.rbl, hs.symbols, hs.proof⟩
    go_enter Tryz.func97, Tryz.ntmps97
    go_wp2_with fail
    refine (beginBlock_any b t o pre post d H _ (by exact h) ho (by omega)).mono ?_
    rintro e w2 ⟨rfl, H2, D2, T2⟩
    go_wp2_with fail
    refine (recBegin_any b t o pre post { d with blocks := d.blocks ++ [(d.active.length, d.typed.length)] } H2 _ (by exact D2) ho hs2.out).mono ?_
    rintro e w3 ⟨rfl, H3, D3, T3⟩
    go_wp2
    go_ret
    exact ⟨ret_int (by rw [HT.out]), H3, by rw [HT.out]; exact D3, T2.trans T3⟩

end Go.Proofs.YtcipkfhpcbddiaaGreat

/- Package statements: Take. -/
namespace Go.Proofs.YtcipkfhpcbddiaaGreat
open Go.RowKit

theorem dollar_eq (x : ByteArray) (h : (x.toList == [36, 61]) = true) : dollarF x = true := by
  have : x = ⟨#[36, 61]⟩ := bytes_ext (by rw [ByteArray.toList_mk [36, 61]]; simpa using h)
  rw [this]; decide +kernel

theorem rowW_snoc (l : List (ByteArray × Pl)) (p : ByteArray × Pl) : (⟨(rowW l).e, (rowW l).size, (rowW l).n + 1, (rowW l).xs ++ wordV p⟩ : Row) = rowW (l ++ [p]) := by
  simp [rowW, wordsV]

theorem build_word (w : World) (x f : ByteArray) (l c : Int) : (Instr.build 157 #[(0, .string x), (1, .agg #[.string f, .int .i64 l, .int .i64 c])]).run Tryz.prog w = .ok (.agg #[.string x, .string f, .int .i64 l, .int .i64 c]) w :=
  run_build w 157 _ _ (by kernel_rfl)
attribute [local go_sem] build_word

/-- What Take leaves: the frame of its cases. -/
def TakeSays (b t o : Nat) (pre post : List Value) (d : Db) (H : Nat → Hd) (x f : ByteArray) (l c : Int) (w : World) : Prop :=
  Calls Tryz.prog 77 #[.pointer (some ⟨b, o, none⟩), .string x, .agg #[.string f, .int .i64 l, .int .i64 c]] w fun e w' => e = .returned (.int .i64 (takeF d x ⟨f, l, c⟩).1) ∧ ∃ H', DbIs w' b t pre post (takeF d x ⟨f, l, c⟩).2 H' ∧ Turned b w H w' H'

/-- The world behind the place's own variable. -/
theorem boxed {w : World} {b t : Nat} {pre post : List Value} {d : Db} {H : Nat → Hd} (h : DbIs w b t pre post d H) (f : ByteArray) (l c : Int) :
    ∃ W, Hid (w.alloc (.cells #[.string f, .int .i64 l, .int .i64 c] 39) = W) ∧ Kept [] w W ∧ DbIs W b t pre post d H ∧ W.cell? ⟨w.heap.size, 0, none⟩ = some (.string f) ∧ W.cell? ⟨w.heap.size, 1, none⟩ = some (.int .i64 l) ∧ W.cell? ⟨w.heap.size, 2, none⟩ = some (.int .i64 c) := by
  have B : (w.alloc (.cells #[.string f, .int .i64 l, .int .i64 c] 39)).heap[w.heap.size]? = some (.cells #[.string f, .int .i64 l, .int .i64 c] 39 (0, 0)) := heap_alloc_new _ _
  refine ⟨_, rfl, (Kept.refl [] _).alloc _, h.still ((Kept.refl [] _).alloc _), ?_, ?_, ?_⟩ <;> rw [cell_of B] <;> rfl

set_option maxHeartbeats 2000000 in
set_option maxRecDepth 100000 in
theorem takeSym_any (b t o : Nat) (pre post : List Value) (d : Db) (H : Nat → Hd) (x f : ByteArray) (l c : Int) (w : World) (h : DbIs w b t pre post d H) (ho : pre.length = o) (hs1 : Small d 10000000) (hx : x.size ≤ 1073741824) (k0 : (d.kind == 0) = false) (k1 : (d.kind == 6) = false) (e46 : (x.toList == [36, 46]) = false) (e61 : (x.toList == [36, 61]) = false) (hd : dollarF x = false) (hp : d.inProof = false) :
    TakeSays b t o pre post d H x f l c w := by
  unfold TakeSays
  have hs := hs1.mono (M := 1073741824) (by omega)
  obtain ⟨W, HW, K, D, p0, p1, p2⟩ := boxed h f l c
  clear h
  obtain ⟨q0, q1, q2, q3, q4, q5, q6, q7, q8, q9, q10, q11, q12⟩ := D.cells o ho
  clear q0 q1 q2 q3 q4 q5 q6 q7 q9 q12
  have hfr := D.free
  rw [hp] at q11
  cases hc : (checkSymbolF d x == 0)
  · have HT : Hid (takeF d x ⟨f, l, c⟩ = (checkSymbolF d x, d)) := by show takeF d x ⟨f, l, c⟩ = _; simp [takeF, k0, k1, e46, e61, hd, hp, hc]
    go_enter Tryz.func77, Tryz.ntmps77
    go_upto_region 1 with fail
    rw [HW.out]
    go_wp2_with (first | (go_at_call 96; refine (dollar_any x _ hx).mono ?_; rintro e w1 ⟨rfl, rfl⟩) | (go_at_call 101; refine (checkSymbol_any b t o pre post d H x _ (by exact D) ho hs).mono ?_; rintro e w1 ⟨rfl, rfl⟩))
    go_ret
    exact ⟨ret_int (by rw [HT.out]), H, by rw [HT.out]; exact D, (Turned.refl _ _ _).still K⟩
  · have HT : Hid (takeF d x ⟨f, l, c⟩ = (0, { d with symbols := d.symbols ++ [x] })) := by show takeF d x ⟨f, l, c⟩ = _; simp [takeF, k0, k1, e46, e61, hd, hp, hc]
    have hc0 : Hid (checkSymbolF d x = 0) := (show checkSymbolF d x = 0 by simpa using hc)
    have hsl := hs1.symbols
    obtain ⟨i0, hi0, hz0, hz1, hz2⟩ := info_parts infoS
    have hA := D.still ((Kept.refl [] W).alloc (.cells #[.string x] 9))
    have hownA := hA.own 8
    have hbw := D.lt
    go_enter Tryz.func77, Tryz.ntmps77
    go_upto_region 1 with fail
    rw [HW.out]
    go_wp2_with (first | (go_at_call 96; refine (dollar_any x _ hx).mono ?_; rintro e w1 ⟨rfl, rfl⟩) | (go_at_call 101; refine (checkSymbol_any b t o pre post d H x _ (by exact D) ho hs).mono ?_; rintro e w1 ⟨rfl, rfl⟩) | (at_builtin; refine wpList_append_row _ rfl (.tmp 74) (.tmp 76) 22 rfl i0 (.string ⟨#[]⟩) 16 (H 8) (rowS d.symbols) Tryz.underlying22 hi0 hz0 hz1 hz2 rfl Nat.one_pos rfl (by exact hownA) ⟨_, 0, none⟩ 1 1 [.string x] rfl rfl ?c1 ?c2 Nat.one_pos ?c3 ?c4 ?_))
    case c1 => intro j u hj; match j, hj with | 0, hj => simp at hj; subst hj; simp [Addr.add]
    case c2 => intro u hu; simp at hu; subst hu; rfl
    case c3 => simp only [rowS]; unfold maxLen; omega
    case c4 => simp only [rowS]; omega
    intro g cap' w1 hw1 hgr hfresh
    obtain ⟨k0, f0, HP⟩ := hA.app (d' := { d with symbols := d.symbols ++ [x] }) o 10 ho 8 (by omega) g cap' ((rowS d.symbols).n + 1) _ hw1 (rowS_snoc d.symbols x) hgr (by simpa using hfresh) (rows_symbols d H _) (by omega) _ rfl (by simp [dbList, upd, rowS])
    clear hA hownA q8 q10 q11 hw1 hgr hfresh hfr
    go_wp2
    go_ret
    exact ⟨ret_int (by rw [HT.out, hc0.out]), _, by rw [HT.out]; exact HP.out.1, HP.out.2.first (K.alloc _)⟩

set_option maxHeartbeats 2000000 in
set_option maxRecDepth 100000 in
theorem takeProof_any (b t o : Nat) (pre post : List Value) (d : Db) (H : Nat → Hd) (x f : ByteArray) (l c : Int) (w : World) (h : DbIs w b t pre post d H) (ho : pre.length = o) (hs1 : Small d 10000000) (hx : x.size ≤ 1073741824) (k0 : (d.kind == 0) = false) (k1 : (d.kind == 6) = false) (e46 : (x.toList == [36, 46]) = false) (e61 : (x.toList == [36, 61]) = false) (hd : dollarF x = false) (hp : d.inProof = true) :
    TakeSays b t o pre post d H x f l c w := by
  unfold TakeSays
  obtain ⟨W, HW, K, D, p0, p1, p2⟩ := boxed h f l c
  clear h
  obtain ⟨q0, q1, q2, q3, q4, q5, q6, q7, q8, q9, q10, q11, q12⟩ := D.cells o ho
  clear q0 q1 q2 q3 q4 q5 q6 q7 q9 q10
  have hfr := D.free
  rw [hp] at q11
  have HT : Hid (takeF d x ⟨f, l, c⟩ = (0, { d with proof := d.proof ++ [(x, ⟨f, l, c⟩)] })) := by show takeF d x ⟨f, l, c⟩ = _; simp [takeF, k0, k1, e46, e61, hd, hp]
  have hsl := hs1.proof
  obtain ⟨i0, hi0, hz0, hz1, hz2⟩ := info_parts infoW
  have hbw := D.lt
  have hD : Hid (DbIs (W.alloc (.cells #[.string x, .string f, .int .i64 l, .int .i64 c] 157)).drew b t pre post d H) := D.still ((Kept.refl [] W).alloc _).drew
  have s2 : Hid (∀ j u, (wordV (x, ⟨f, l, c⟩))[j]? = some u → (W.alloc (.cells #[.string x, .string f, .int .i64 l, .int .i64 c] 157)).drew.cell? ((⟨W.heap.size, 0, none⟩ : Addr).add j) = some u) := by
    intro j u hj
    have hk : (W.alloc (.cells #[.string x, .string f, .int .i64 l, .int .i64 c] 157)).drew.heap[W.heap.size]? = some (.cells #[.string x, .string f, .int .i64 l, .int .i64 c] 157 (0, 0)) := heap_alloc_new _ _
    rw [addr_add, cell_of hk]; simpa [wordV] using hj
  have s3 : Hid (∀ u ∈ wordV (x, ⟨f, l, c⟩), u.oneCell' = true) := by
    intro u hu
    simp only [wordV, List.mem_cons, List.not_mem_nil, or_false] at hu
    rcases hu with rfl | rfl | rfl | rfl <;> rfl
  have s4 : Hid ((rowW d.proof).n + 1 ≤ maxLen) := by show _ ≤ _; simp only [rowW]; unfold maxLen; omega
  have s5 : Hid (((rowW d.proof).n + 1) * 48 ≤ 140737488355328) := by show _ ≤ _; simp only [rowW]; omega
  go_enter Tryz.func77, Tryz.ntmps77
  go_upto_region 1 with fail
  rw [HW.out]
  go_wp2_with (go_at_call 96; refine (dollar_any x _ hx).mono ?_; rintro e w1 ⟨rfl, rfl⟩)
  go_region_law (refine step_append_row rfl (.tmp 57) (.tmp 61) 109 rfl i0 (.agg #[.string ⟨#[]⟩, .string ⟨#[]⟩, .int .i64 0, .int .i64 0]) 48 (H 9) (rowW d.proof) Tryz.underlying109 hi0 hz0 hz1 hz2 rfl (Nat.succ_pos 3) (by simp [Act.eval] <;> rfl) (hD.out.own 9) ⟨_, 0, none⟩ 1 1 (wordV (x, ⟨f, l, c⟩)) (by simp [Act.eval] <;> rfl) rfl s2.out s3.out Nat.one_pos s4.out s5.out ?_; intro g cap' w1 hw1 hgr hfresh; obtain ⟨k5, f5, HP⟩ := hD.out.app (d' := { d with proof := d.proof ++ [(x, ⟨f, l, c⟩)] }) o 12 ho 9 (by omega) g cap' ((rowW d.proof).n + 1) _ hw1 (rowW_snoc d.proof (x, ⟨f, l, c⟩)) hgr (by simpa using hfresh) (rows_proof d H _) (by omega) _ rfl (by simp [dbList, upd, rowW]); clear hw1 hgr hfresh)
  all_goals go_wp2
  all_goals go_ret
  all_goals exact ⟨ret_int (by rw [HT.out]), _, by rw [HT.out]; exact HP.out.1, HP.out.2.first (K.trans ((Kept.refl [] _).alloc _).drew)⟩

set_option maxHeartbeats 2000000 in
set_option maxRecDepth 100000 in
theorem takeEq_any (b t o : Nat) (pre post : List Value) (d : Db) (H : Nat → Hd) (x f : ByteArray) (l c : Int) (w : World) (h : DbIs w b t pre post d H) (ho : pre.length = o) (hx : x.size ≤ 1073741824) (k0 : (d.kind == 0) = false) (k1 : (d.kind == 6) = false) (e46 : (x.toList == [36, 46]) = false) (e61 : (x.toList == [36, 61]) = true) :
    TakeSays b t o pre post d H x f l c w := by
  unfold TakeSays
  obtain ⟨W, HW, K, D, p0, p1, p2⟩ := boxed h f l c
  clear h
  obtain ⟨q0, q1, q2, q3, q4, q5, q6, q7, q8, q9, q10, q11, q12⟩ := D.cells o ho
  clear q0 q1 q2 q3 q4 q5 q6 q7 q9 q10 q12
  have hfr := D.free
  have hd := dollar_eq x e61
  cases k5 : (d.kind == 5)
  · have HT : Hid (takeF d x ⟨f, l, c⟩ = (8, d)) := by show takeF d x ⟨f, l, c⟩ = _; simp [takeF, k0, k1, e46, k5, hd]
    go_enter Tryz.func77, Tryz.ntmps77
    go_upto_region 1 with fail
    rw [HW.out]
    go_wp2_with (go_at_call 96; refine (dollar_any x _ hx).mono ?_; rintro e w1 ⟨rfl, rfl⟩)
    go_ret
    exact ⟨ret_int (by rw [HT.out]), H, by rw [HT.out]; exact D, (Turned.refl _ _ _).still K⟩
  · cases hp : d.inProof
    · have HT : Hid (takeF d x ⟨f, l, c⟩ = beginProofF d) := by show takeF d x ⟨f, l, c⟩ = _; simp only [takeF, k0, k1, e46, e61, k5, hp]; simp
      rw [hp] at q11
      go_enter Tryz.func77, Tryz.ntmps77
      go_upto_region 1 with fail
      rw [HW.out]
      go_wp2_with fail
      refine (beginProof_any b t o pre post d H _ (by exact D) ho).mono ?_
      rintro e w2 ⟨rfl, H2, D2, T2⟩
      go_wp2
      go_ret
      exact ⟨ret_int (by rw [HT.out]), H2, by rw [HT.out]; exact D2, T2.first K⟩
    · have HT : Hid (takeF d x ⟨f, l, c⟩ = (8, d)) := by show takeF d x ⟨f, l, c⟩ = _; simp [takeF, k0, k1, e46, hp, hd]
      rw [hp] at q11
      go_enter Tryz.func77, Tryz.ntmps77
      go_upto_region 1 with fail
      rw [HW.out]
      go_wp2_with (go_at_call 96; refine (dollar_any x _ hx).mono ?_; rintro e w1 ⟨rfl, rfl⟩)
      go_ret
      exact ⟨ret_int (by rw [HT.out]), H, by rw [HT.out]; exact D, (Turned.refl _ _ _).still K⟩

set_option maxHeartbeats 2000000 in
set_option maxRecDepth 100000 in
theorem take_any (b t o : Nat) (pre post : List Value) (d : Db) (H : Nat → Hd) (x f : ByteArray) (l c : Int) (w : World) (h : DbIs w b t pre post d H) (ho : pre.length = o) (hs : Small d 10000000) (hx : x.size ≤ 1073741824) (hi : Inner d 100000000) :
    TakeSays b t o pre post d H x f l c w := by
  cases k0 : (d.kind == 0)
  · cases k1 : (d.kind == 6)
    · cases e46 : (x.toList == [36, 46])
      · cases e61 : (x.toList == [36, 61])
        · cases hd : dollarF x
          · cases hp : d.inProof
            · exact takeSym_any b t o pre post d H x f l c w h ho hs hx k0 k1 e46 e61 hd hp
            · exact takeProof_any b t o pre post d H x f l c w h ho hs hx k0 k1 e46 e61 hd hp
          · unfold TakeSays
            obtain ⟨W, HW, K, D, p0, p1, p2⟩ := boxed h f l c
            clear h hi
            obtain ⟨q0, q1, q2, q3, q4, q5, q6, q7, q8, q9, q10, q11, q12⟩ := D.cells o ho
            clear q0 q1 q2 q3 q4 q5 q6 q7 q9 q10 q12
            have HT : Hid (takeF d x ⟨f, l, c⟩ = (8, d)) := by show takeF d x ⟨f, l, c⟩ = _; simp [takeF, k0, k1, e46, e61, hd]
            go_enter Tryz.func77, Tryz.ntmps77
            go_upto_region 1 with fail
            rw [HW.out]
            go_wp2_with (go_at_call 96; refine (dollar_any x _ hx).mono ?_; rintro e w1 ⟨rfl, rfl⟩)
            go_ret
            exact ⟨ret_int (by rw [HT.out]), H, by rw [HT.out]; exact D, (Turned.refl _ _ _).still K⟩
        · exact takeEq_any b t o pre post d H x f l c w h ho hx k0 k1 e46 e61
      · unfold TakeSays
        obtain ⟨W, HW, K, D, p0, p1, p2⟩ := boxed h f l c
        clear h hi
        obtain ⟨q0, q1, q2, q3, q4, q5, q6, q7, q8, q9, q10, q11, q12⟩ := D.cells o ho
        clear q0 q1 q2 q3 q4 q5 q6 q7 q9 q10 q11 q12
        have HT : Hid (takeF d x ⟨f, l, c⟩ = endF d ⟨f, l, c⟩) := by show takeF d x ⟨f, l, c⟩ = _; simp only [takeF, k0, k1, e46]; simp
        go_enter Tryz.func77, Tryz.ntmps77
        go_upto_region 1 with fail
        rw [HW.out]
        go_wp2_with fail
        refine (end_any b t o pre post d H f l c _ (by exact D) ho hs).mono ?_
        rintro e w2 ⟨rfl, H2, D2, T2⟩
        go_wp2
        go_ret
        exact ⟨ret_int (by rw [HT.out]), H2, by rw [HT.out]; exact D2, T2.first K⟩
    · unfold TakeSays
      obtain ⟨W, HW, K, D, p0, p1, p2⟩ := boxed h f l c
      clear h hi
      obtain ⟨q0, q1, q2, q3, q4, q5, q6, q7, q8, q9, q10, q11, q12⟩ := D.cells o ho
      clear q0 q1 q2 q3 q4 q5 q6 q7 q9 q10 q11 q12
      have HT : Hid (takeF d x ⟨f, l, c⟩ = takeKeywordF d x) := by show takeF d x ⟨f, l, c⟩ = _; simp only [takeF, k0, k1]; simp
      go_enter Tryz.func77, Tryz.ntmps77
      go_upto_region 1 with fail
      rw [HW.out]
      go_wp2_with fail
      refine (takeKeyword_any b t o pre post d H x _ (by exact D) ho).mono ?_
      rintro e w2 ⟨rfl, H2, D2, T2⟩
      go_wp2
      go_ret
      exact ⟨ret_int (by rw [HT.out]), H2, by rw [HT.out]; exact D2, T2.first K⟩
  · unfold TakeSays
    obtain ⟨W, HW, K, D, p0, p1, p2⟩ := boxed h f l c
    clear h
    obtain ⟨q0, q1, q2, q3, q4, q5, q6, q7, q8, q9, q10, q11, q12⟩ := D.cells o ho
    clear q0 q1 q2 q3 q4 q5 q6 q7 q9 q10 q11 q12
    have HT : Hid (takeF d x ⟨f, l, c⟩ = takeFirstF d x) := by show takeF d x ⟨f, l, c⟩ = _; simp only [takeF, k0]; simp
    go_enter Tryz.func77, Tryz.ntmps77
    go_upto_region 1 with fail
    rw [HW.out]
    go_wp2_with fail
    refine (takeFirst_any b t o pre post d H x _ (by exact D) ho hs hx hi).mono ?_
    rintro e w2 ⟨rfl, H2, D2, T2⟩
    go_wp2
    go_ret
    exact ⟨ret_int (by rw [HT.out]), H2, by rw [HT.out]; exact D2, T2.first K⟩

end Go.Proofs.YtcipkfhpcbddiaaGreat

/- Package reader, as a function of the data: files, inclusions; a file without inclusions. -/
namespace Go.Proofs.YtcipkfhpcbddiaaGreat
open Go.RowKit

def emptyDb : Db := ⟨[], [], [], [], [], [], [], [], 0, ⟨#[]⟩, [], false, []⟩
/-- A fault: its rule and place; rule 0: none. -/
abbrev Flt := Int × Pl
def noFlt : Flt := (0, ⟨⟨#[]⟩, 0, 0⟩)
def fltV (f : Flt) : Value := .agg #[.int .i64 f.1, .string f.2.file, .int .i64 f.2.line, .int .i64 f.2.col]
def plAt (n s : ByteArray) (p : Nat) : Pl := ⟨n, lineAt s p, colAt s p⟩
def itemFlt (n s : ByteArray) (i : Item) : Flt := (if i.fin = true then 7 else i.rule, plAt n s i.pos)
/-- What reading leaves: a fault, which files were begun, the database. -/
abbrev Red := Flt × List Bool × Db

/-- Where an inclusion leads: a fault, or a file and the place behind it. -/
def incF (fs : List (ByteArray × ByteArray)) (x z : Nat) (p : Pl) (d : Db) : Flt ⊕ (Nat × Nat) :=
  if openF d = true then .inl (4, p)
  else if isWordF (nextF (fileDt fs x) z).1 = false then .inl (itemFlt (fileNm fs x) (fileDt fs x) (nextF (fileDt fs x) z).1)
  else if dollarF (nextF (fileDt fs x) z).1.text = true then .inl (5, plAt (fileNm fs x) (fileDt fs x) (nextF (fileDt fs x) z).1.pos)
  else if findF fs (nextF (fileDt fs x) z).1.text < 0 then .inl (6, plAt (fileNm fs x) (fileDt fs x) (nextF (fileDt fs x) z).1.pos)
  else if isWordF (nextF (fileDt fs x) (nextF (fileDt fs x) z).2).1 = false then .inl (itemFlt (fileNm fs x) (fileDt fs x) (nextF (fileDt fs x) (nextF (fileDt fs x) z).2).1)
  else if ((nextF (fileDt fs x) (nextF (fileDt fs x) z).2).1.text.toList == [36, 93]) = false then .inl (5, plAt (fileNm fs x) (fileDt fs x) (nextF (fileDt fs x) (nextF (fileDt fs x) z).2).1.pos)
  else .inr ((findF fs (nextF (fileDt fs x) z).1.text).toNat, (nextF (fileDt fs x) (nextF (fileDt fs x) z).2).2)
def incR (rf : Nat → List Bool → Db → Red) (fs : List (ByteArray × ByteArray)) (x z : Nat) (p : Pl) (bg : List Bool) (d : Db) : Red × Nat :=
  match incF fs x z p d with
  | .inl f => ((f, bg, d), z)
  | .inr (j, z') => (rf j bg d, z')
/-- One word: what it leaves, and where reading goes on. -/
def wordR (rf : Nat → List Bool → Db → Red) (fs : List (ByteArray × ByteArray)) (x z : Nat) (t : ByteArray) (p : Pl) (bg : List Bool) (d : Db) : Red × Nat :=
  if (t.toList == [36, 91]) = true then incR rf fs x z p bg d
  else ((if ((takeF d t p).1 == 0) = true then noFlt else ((takeF d t p).1, p), bg, (takeF d t p).2), z)
/-- File x from place k on. -/
def readGo (fs : List (ByteArray × ByteArray)) : Nat → Nat → Nat → List Bool → Db → Red
  | 0, _, _, bg, d => (noFlt, bg, d)
  | f + 1, x, k, bg, d =>
    if isWordF (nextF (fileDt fs x) k).1 = true then
      (if ((wordR (fun j bg d => if bg.getD j true = true then (noFlt, bg, d) else readGo fs f j 0 (bg.set j true) d) fs x (nextF (fileDt fs x) k).2 (nextF (fileDt fs x) k).1.text (plAt (fileNm fs x) (fileDt fs x) (nextF (fileDt fs x) k).1.pos) bg d).1.1.1 == 0) = true
       then readGo fs f x (wordR (fun j bg d => if bg.getD j true = true then (noFlt, bg, d) else readGo fs f j 0 (bg.set j true) d) fs x (nextF (fileDt fs x) k).2 (nextF (fileDt fs x) k).1.text (plAt (fileNm fs x) (fileDt fs x) (nextF (fileDt fs x) k).1.pos) bg d).2
          (wordR (fun j bg d => if bg.getD j true = true then (noFlt, bg, d) else readGo fs f j 0 (bg.set j true) d) fs x (nextF (fileDt fs x) k).2 (nextF (fileDt fs x) k).1.text (plAt (fileNm fs x) (fileDt fs x) (nextF (fileDt fs x) k).1.pos) bg d).1.2.1
          (wordR (fun j bg d => if bg.getD j true = true then (noFlt, bg, d) else readGo fs f j 0 (bg.set j true) d) fs x (nextF (fileDt fs x) k).2 (nextF (fileDt fs x) k).1.text (plAt (fileNm fs x) (fileDt fs x) (nextF (fileDt fs x) k).1.pos) bg d).1.2.2
       else (wordR (fun j bg d => if bg.getD j true = true then (noFlt, bg, d) else readGo fs f j 0 (bg.set j true) d) fs x (nextF (fileDt fs x) k).2 (nextF (fileDt fs x) k).1.text (plAt (fileNm fs x) (fileDt fs x) (nextF (fileDt fs x) k).1.pos) bg d).1)
    else if (nextF (fileDt fs x) k).1.fin = true ∧ openF d = false then (noFlt, bg, d) else (itemFlt (fileNm fs x) (fileDt fs x) (nextF (fileDt fs x) k).1, bg, d)
/-- readFile: nothing, if the file was begun. -/
def fileR (fs : List (ByteArray × ByteArray)) (f : Nat) (j : Nat) (bg : List Bool) (d : Db) : Red :=
  if bg.getD j true = true then (noFlt, bg, d) else readGo fs f j 0 (bg.set j true) d
/-- What one word leaves in a round. -/
def stepR (fs : List (ByteArray × ByteArray)) (f x k : Nat) (bg : List Bool) (d : Db) : Red × Nat :=
  wordR (fileR fs f) fs x (nextF (fileDt fs x) k).2 (nextF (fileDt fs x) k).1.text (plAt (fileNm fs x) (fileDt fs x) (nextF (fileDt fs x) k).1.pos) bg d
theorem go_on (fs : List (ByteArray × ByteArray)) (f x k : Nat) (bg : List Bool) (d : Db) (h1 : isWordF (nextF (fileDt fs x) k).1 = true) (h2 : ((stepR fs f x k bg d).1.1.1 == 0) = true) :
    readGo fs (f + 1) x k bg d = readGo fs f x (stepR fs f x k bg d).2 (stepR fs f x k bg d).1.2.1 (stepR fs f x k bg d).1.2.2 := by
  rw [readGo, if_pos h1]; exact if_pos h2
theorem go_stop (fs : List (ByteArray × ByteArray)) (f x k : Nat) (bg : List Bool) (d : Db) (h1 : isWordF (nextF (fileDt fs x) k).1 = true) (h2 : ((stepR fs f x k bg d).1.1.1 == 0) = false) :
    readGo fs (f + 1) x k bg d = (stepR fs f x k bg d).1 := by
  rw [readGo, if_pos h1]; exact if_neg (fun hh => Bool.noConfusion (h2.symm.trans hh))
theorem go_end (fs : List (ByteArray × ByteArray)) (f x k : Nat) (bg : List Bool) (d : Db) (h1 : isWordF (nextF (fileDt fs x) k).1 = false) (h2 : (nextF (fileDt fs x) k).1.fin = true) (h3 : openF d = false) :
    readGo fs (f + 1) x k bg d = (noFlt, bg, d) := by
  rw [readGo, if_neg (by simp [h1]), if_pos ⟨h2, h3⟩]
theorem go_bad (fs : List (ByteArray × ByteArray)) (f x k : Nat) (bg : List Bool) (d : Db) (h1 : isWordF (nextF (fileDt fs x) k).1 = false) (h2 : ¬ ((nextF (fileDt fs x) k).1.fin = true ∧ openF d = false)) :
    readGo fs (f + 1) x k bg d = (itemFlt (fileNm fs x) (fileDt fs x) (nextF (fileDt fs x) k).1, bg, d) := by
  rw [readGo, if_neg (by simp [h1]), if_neg h2]

/-- A file without inclusions: the rule and place of its first fault, and the database. -/
def readTo (n s : ByteArray) : Nat → Nat → Db → (Int × Nat) × Db
  | 0, _, d => ((0, 0), d)
  | f + 1, k, d =>
    if isWordF (nextF s k).1 = true then
      (if ((takeF d (nextF s k).1.text (plAt n s (nextF s k).1.pos)).1 == 0) = true then readTo n s f (nextF s k).2 (takeF d (nextF s k).1.text (plAt n s (nextF s k).1.pos)).2
       else (((takeF d (nextF s k).1.text (plAt n s (nextF s k).1.pos)).1, (nextF s k).1.pos), (takeF d (nextF s k).1.text (plAt n s (nextF s k).1.pos)).2))
    else if (nextF s k).1.fin = true then (if openF d = false then ((0, 0), d) else ((7, (nextF s k).1.pos), d)) else (((nextF s k).1.rule, (nextF s k).1.pos), d)
def readF (n s : ByteArray) (k : Nat) (d : Db) : (Int × Nat) × Db := readTo n s (s.size - k + 1) k d
def fltOf (n s : ByteArray) (q : Int × Nat) : Flt := if (q.1 == 0) = true then noFlt else (q.1, plAt n s q.2)
/-- No word of this text is an inclusion. -/
def NoInc (s : ByteArray) : Prop := ∀ k, k ≤ s.size → isWordF (nextF s k).1 = true → ((nextF s k).1.text.toList == [36, 91]) = false

theorem isWordF_eq {i : Item} (h : isWordF i = true) : i = ⟨i.text, 0, false, i.pos⟩ := by
  obtain ⟨t, u, f, p⟩ := i
  simp [isWordF] at h
  rw [h.1, h.2]
theorem isWordF_not {i : Item} (h : isWordF i = false) (hf : i.fin = false) : (i.rule == 0) = false := by
  simp [isWordF, hf] at h
  simpa using h

theorem readTo_fuel (n s : ByteArray) (f k : Nat) (d : Db) (hk : k ≤ s.size) (hf : s.size - k + 1 ≤ f) : readTo n s f k d = readF n s k d := by
  unfold readF
  suffices h : ∀ f g k d, k ≤ s.size → s.size - k + 1 ≤ f → s.size - k + 1 ≤ g → readTo n s f k d = readTo n s g k d from h _ _ _ _ hk hf (Nat.le_refl _)
  clear hf hk f k d
  intro f
  induction f with
  | zero => intro g k d _ h; omega
  | succ f ih =>
    intro g k d hk hf hg
    cases g with
    | zero => omega
    | succ g =>
      rw [readTo, readTo]
      split
      · next h =>
        have hl := nextF_le s k hk
        have hl2 := hl.2.2 h
        split
        · exact ih g _ _ hl.2.1 (by omega) (by omega)
        · rfl
      · rfl
theorem read_on (n s : ByteArray) (k : Nat) (d : Db) (hk : k ≤ s.size) (h1 : isWordF (nextF s k).1 = true) (h2 : ((takeF d (nextF s k).1.text (plAt n s (nextF s k).1.pos)).1 == 0) = true) :
    readF n s k d = readF n s (nextF s k).2 (takeF d (nextF s k).1.text (plAt n s (nextF s k).1.pos)).2 := by
  have hl := nextF_le s k hk
  have hl2 := hl.2.2 h1
  conv => lhs; unfold readF
  rw [readTo, if_pos h1, if_pos h2, readTo_fuel n s _ _ _ hl.2.1 (by omega)]
theorem read_rule (n s : ByteArray) (k : Nat) (d : Db) (h1 : isWordF (nextF s k).1 = true) (h2 : ((takeF d (nextF s k).1.text (plAt n s (nextF s k).1.pos)).1 == 0) = false) :
    readF n s k d = (((takeF d (nextF s k).1.text (plAt n s (nextF s k).1.pos)).1, (nextF s k).1.pos), (takeF d (nextF s k).1.text (plAt n s (nextF s k).1.pos)).2) := by
  unfold readF
  rw [readTo, if_pos h1, if_neg (by simp [h2])]
theorem read_end (n s : ByteArray) (k : Nat) (d : Db) (h1 : isWordF (nextF s k).1 = false) (h2 : (nextF s k).1.fin = true) (h3 : openF d = false) : readF n s k d = ((0, 0), d) := by
  unfold readF
  rw [readTo, if_neg (by simp [h1]), if_pos h2, if_pos h3]
theorem read_open (n s : ByteArray) (k : Nat) (d : Db) (h1 : isWordF (nextF s k).1 = false) (h2 : (nextF s k).1.fin = true) (h3 : openF d = true) : readF n s k d = ((7, (nextF s k).1.pos), d) := by
  unfold readF
  rw [readTo, if_neg (by simp [h1]), if_pos h2, if_neg (by simp [h3])]
theorem read_bad (n s : ByteArray) (k : Nat) (d : Db) (h1 : isWordF (nextF s k).1 = false) (h2 : (nextF s k).1.fin = false) : readF n s k d = (((nextF s k).1.rule, (nextF s k).1.pos), d) := by
  unfold readF
  rw [readTo, if_neg (by simp [h1]), if_neg (by simp [h2])]

/-- Without inclusions a file is read as if it were alone. -/
theorem go_plain (fs : List (ByteArray × ByteArray)) (x : Nat) (hni : NoInc (fileDt fs x)) (f : Nat) : ∀ k bg d, k ≤ (fileDt fs x).size → (fileDt fs x).size - k + 1 ≤ f →
    readGo fs f x k bg d = (fltOf (fileNm fs x) (fileDt fs x) (readF (fileNm fs x) (fileDt fs x) k d).1, bg, (readF (fileNm fs x) (fileDt fs x) k d).2) := by
  induction f with
  | zero => intro k bg d hk hf; omega
  | succ f ih =>
    intro k bg d hk hf
    have hl := nextF_le (fileDt fs x) k hk
    cases h1 : isWordF (nextF (fileDt fs x) k).1 with
    | true =>
      have hl2 := hl.2.2 h1
      have hn := hni k hk h1
      have es : stepR fs f x k bg d = ((if ((takeF d (nextF (fileDt fs x) k).1.text (plAt (fileNm fs x) (fileDt fs x) (nextF (fileDt fs x) k).1.pos)).1 == 0) = true then noFlt else ((takeF d (nextF (fileDt fs x) k).1.text (plAt (fileNm fs x) (fileDt fs x) (nextF (fileDt fs x) k).1.pos)).1, plAt (fileNm fs x) (fileDt fs x) (nextF (fileDt fs x) k).1.pos), bg, (takeF d (nextF (fileDt fs x) k).1.text (plAt (fileNm fs x) (fileDt fs x) (nextF (fileDt fs x) k).1.pos)).2), (nextF (fileDt fs x) k).2) := by
        unfold stepR wordR
        rw [hn]; simp
      cases h2 : ((takeF d (nextF (fileDt fs x) k).1.text (plAt (fileNm fs x) (fileDt fs x) (nextF (fileDt fs x) k).1.pos)).1 == 0) with
      | true =>
        rw [go_on fs f x k bg d h1 (by rw [es, h2]; rfl), es, ih _ _ _ hl.2.1 (by omega), ← read_on _ _ k d hk h1 h2]
      | false =>
        rw [go_stop fs f x k bg d h1 (by rw [es, h2]; simpa using h2), es, read_rule _ _ k d h1 h2]
        simp only [fltOf, h2]
    | false =>
      cases h2 : (nextF (fileDt fs x) k).1.fin with
      | true =>
        cases h3 : openF d with
        | false => rw [go_end fs f x k bg d h1 h2 h3, read_end _ _ k d h1 h2 h3]; rfl
        | true => rw [go_bad fs f x k bg d h1 (by simp [h3]), read_open _ _ k d h1 h2 h3]; simp [fltOf, itemFlt, h2]
      | false =>
        have h4 := isWordF_not h1 h2
        rw [go_bad fs f x k bg d h1 (by simp [h2]), read_bad _ _ k d h1 h2]; simp [fltOf, itemFlt, h2, h4]

end Go.Proofs.YtcipkfhpcbddiaaGreat
