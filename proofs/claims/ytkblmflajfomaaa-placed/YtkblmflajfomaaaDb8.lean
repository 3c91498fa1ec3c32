/- Package statements: which rule a symbol breaks. -/
import Derived.Test.YtkblmflajfomaaaDb7
namespace Go.Proofs.Ytkblmflajfomaaa
open Go.RowKit

def checkDisjointF (d : Db) (x : ByteArray) : Int := if hasF d.active x = false then 18 else if hasF d.symbols x = true then 19 else 0
def checkTypecodeF (d : Db) (x : ByteArray) : Int := if hasF d.constants x = false then 17 else 0
def checkFloatingF (d : Db) (x : ByteArray) : Int := if 1 < d.symbols.length then 16 else if hasF d.active x = false then 18 else if hasF d.typed x = true then 20 else 0
def checkExpressionF (d : Db) (x : ByteArray) : Int := if hasF d.constants x = true then 0 else if hasF d.active x = false then 21 else if hasF d.typed x = false then 22 else 0
def checkSymbolF (d : Db) (x : ByteArray) : Int :=
  if (d.kind == 2) = true then (if hasF d.symbols x = true ∨ isTakenF d x = true then 13 else 0)
  else if (d.kind == 3) = true then (if hasF d.symbols x = true ∨ isTakenVF d x = true then 13 else 0)
  else if (d.kind == 4) = true then checkDisjointF d x
  else if d.symbols.length = 0 then checkTypecodeF d x
  else if (d.kind == 5) = true then checkFloatingF d x
  else checkExpressionF d x

set_option maxHeartbeats 1000000 in
theorem checkDisjoint_any (b t o : Nat) (pre post : List Value) (d : Db) (H : Nat → Hd) (x : ByteArray) (w : World) (h : DbIs w b t pre post d H) (ho : pre.length = o) (hs : Small d 1073741824) :
    Calls Try.prog 63 #[.pointer (some ⟨b, o, none⟩), .string x] w fun e w' => e = .returned (.int .i64 (checkDisjointF d x)) ∧ w' = w := by
  obtain ⟨q0, q1, q2, q3, q4, q5, q6, q7, q8⟩ := h.cells o ho
  have hsl := hs.symbols
  cases h1 : hasF d.active x <;> cases h2 : hasF d.symbols x
  all_goals
    go_enter Try.func63, Try.ntmps63
    go_wp2_with (first | (go_at_call 73; refine (isActive_any b t o pre post d H x _ (by exact h) ho hs.active).mono ?_; rintro e w1 ⟨rfl, rfl⟩) | (go_at_call 60; refine (has_any (H 6) d.symbols x _ (by exact h.own 6 (by omega)) hs.symbols).mono ?_; rintro e w1 ⟨rfl, rfl⟩))
    go_ret
    exact ⟨ret_int (by simp [checkDisjointF, h1, h2]), rfl⟩

set_option maxHeartbeats 1000000 in
theorem checkTypecode_any (b t o : Nat) (pre post : List Value) (d : Db) (H : Nat → Hd) (x : ByteArray) (w : World) (h : DbIs w b t pre post d H) (ho : pre.length = o) (hs : Small d 1073741824) :
    Calls Try.prog 64 #[.pointer (some ⟨b, o, none⟩), .string x] w fun e w' => e = .returned (.int .i64 (checkTypecodeF d x)) ∧ w' = w := by
  obtain ⟨q0, q1, q2, q3, q4, q5, q6, q7, q8⟩ := h.cells o ho
  have hsl := hs.symbols
  cases h1 : hasF d.constants x
  all_goals
    go_enter Try.func64, Try.ntmps64
    go_wp2_with (first | (go_at_call 74; refine (isConstant_any b t o pre post d H x _ (by exact h) ho hs.constants).mono ?_; rintro e w1 ⟨rfl, rfl⟩))
    go_ret
    exact ⟨ret_int (by simp [checkTypecodeF, h1]), rfl⟩

set_option maxHeartbeats 1000000 in
theorem checkFloating_any (b t o : Nat) (pre post : List Value) (d : Db) (H : Nat → Hd) (x : ByteArray) (w : World) (h : DbIs w b t pre post d H) (ho : pre.length = o) (hs : Small d 1073741824) :
    Calls Try.prog 65 #[.pointer (some ⟨b, o, none⟩), .string x] w fun e w' => e = .returned (.int .i64 (checkFloatingF d x)) ∧ w' = w := by
  obtain ⟨q0, q1, q2, q3, q4, q5, q6, q7, q8⟩ := h.cells o ho
  have hsl := hs.symbols
  by_cases h0 : 1 < d.symbols.length
  · go_enter Try.func65, Try.ntmps65
    go_wp2_with (first | (go_at_call 73; refine (isActive_any b t o pre post d H x _ (by exact h) ho hs.active).mono ?_; rintro e w1 ⟨rfl, rfl⟩) | (go_at_call 75; refine (isTyped_any b t o pre post d H x _ (by exact h) ho hs.typed).mono ?_; rintro e w1 ⟨rfl, rfl⟩))
    go_ret
    exact ⟨ret_int (by simp [checkFloatingF, h0]), rfl⟩
  · cases h1 : hasF d.active x <;> cases h2 : hasF d.typed x
    all_goals
      go_enter Try.func65, Try.ntmps65
      go_wp2_with (first | (go_at_call 73; refine (isActive_any b t o pre post d H x _ (by exact h) ho hs.active).mono ?_; rintro e w1 ⟨rfl, rfl⟩) | (go_at_call 75; refine (isTyped_any b t o pre post d H x _ (by exact h) ho hs.typed).mono ?_; rintro e w1 ⟨rfl, rfl⟩))
      go_ret
      exact ⟨ret_int (by simp [checkFloatingF, h0, h1, h2]), rfl⟩

set_option maxHeartbeats 1000000 in
theorem checkExpression_any (b t o : Nat) (pre post : List Value) (d : Db) (H : Nat → Hd) (x : ByteArray) (w : World) (h : DbIs w b t pre post d H) (ho : pre.length = o) (hs : Small d 1073741824) :
    Calls Try.prog 66 #[.pointer (some ⟨b, o, none⟩), .string x] w fun e w' => e = .returned (.int .i64 (checkExpressionF d x)) ∧ w' = w := by
  obtain ⟨q0, q1, q2, q3, q4, q5, q6, q7, q8⟩ := h.cells o ho
  have hsl := hs.symbols
  cases h0 : hasF d.constants x
  · cases h1 : hasF d.active x <;> cases h2 : hasF d.typed x
    all_goals
      go_enter Try.func66, Try.ntmps66
      go_wp2_with (first | (go_at_call 74; refine (isConstant_any b t o pre post d H x _ (by exact h) ho hs.constants).mono ?_; rintro e w1 ⟨rfl, rfl⟩) | (go_at_call 73; refine (isActive_any b t o pre post d H x _ (by exact h) ho hs.active).mono ?_; rintro e w1 ⟨rfl, rfl⟩) | (go_at_call 75; refine (isTyped_any b t o pre post d H x _ (by exact h) ho hs.typed).mono ?_; rintro e w1 ⟨rfl, rfl⟩))
      go_ret
      exact ⟨ret_int (by simp [checkExpressionF, h0, h1, h2]), rfl⟩
  · go_enter Try.func66, Try.ntmps66
    go_wp2_with (first | (go_at_call 74; refine (isConstant_any b t o pre post d H x _ (by exact h) ho hs.constants).mono ?_; rintro e w1 ⟨rfl, rfl⟩) | (go_at_call 73; refine (isActive_any b t o pre post d H x _ (by exact h) ho hs.active).mono ?_; rintro e w1 ⟨rfl, rfl⟩) | (go_at_call 75; refine (isTyped_any b t o pre post d H x _ (by exact h) ho hs.typed).mono ?_; rintro e w1 ⟨rfl, rfl⟩))
    go_ret
    exact ⟨ret_int (by simp [checkExpressionF, h0]), rfl⟩

set_option maxHeartbeats 1000000 in
theorem checkSymbol_any (b t o : Nat) (pre post : List Value) (d : Db) (H : Nat → Hd) (x : ByteArray) (w : World) (h : DbIs w b t pre post d H) (ho : pre.length = o) (hs : Small d 1073741824) :
    Calls Try.prog 54 #[.pointer (some ⟨b, o, none⟩), .string x] w fun e w' => e = .returned (.int .i64 (checkSymbolF d x)) ∧ w' = w := by
  obtain ⟨q0, q1, q2, q3, q4, q5, q6, q7, q8⟩ := h.cells o ho
  have hsl := hs.symbols
  cases k2 : (d.kind == 2)
  · cases k3 : (d.kind == 3)
    · cases k4 : (d.kind == 4)
      · by_cases hz : d.symbols.length = 0
        · have HT : Hid (checkSymbolF d x = checkTypecodeF d x) := by show checkSymbolF d x = _; simp only [checkSymbolF, k2, k3, k4, hz]; simp
          have hz1 : ((d.symbols.length : Int) == 0) = true := by simp [hz]
          clear hz
          go_enter Try.func54, Try.ntmps54
          go_wp2_with (first | (go_at_call 64; refine (checkTypecode_any b t o pre post d H x _ (by exact h) ho hs).mono ?_; rintro e w1 ⟨rfl, rfl⟩))
          go_ret
          exact ⟨ret_int (by rw [HT.out]), rfl⟩
        · have hz1 : ((d.symbols.length : Int) == 0) = false := beq_eq_false_iff_ne.2 (by omega)
          cases k5 : (d.kind == 5)
          · have HT : Hid (checkSymbolF d x = checkExpressionF d x) := by show checkSymbolF d x = _; simp [checkSymbolF, k2, k3, k4, k5, hz]
            clear hz
            go_enter Try.func54, Try.ntmps54
            go_wp2_with (first | (go_at_call 66; refine (checkExpression_any b t o pre post d H x _ (by exact h) ho hs).mono ?_; rintro e w1 ⟨rfl, rfl⟩))
            go_ret
            exact ⟨ret_int (by rw [HT.out]), rfl⟩
          · have HT : Hid (checkSymbolF d x = checkFloatingF d x) := by show checkSymbolF d x = _; simp [checkSymbolF, k2, k3, k4, k5, hz]
            clear hz
            go_enter Try.func54, Try.ntmps54
            go_wp2_with (first | (go_at_call 65; refine (checkFloating_any b t o pre post d H x _ (by exact h) ho hs).mono ?_; rintro e w1 ⟨rfl, rfl⟩))
            go_ret
            exact ⟨ret_int (by rw [HT.out]), rfl⟩
      · have HT : Hid (checkSymbolF d x = checkDisjointF d x) := by show checkSymbolF d x = _; simp [checkSymbolF, k2, k3, k4]
        go_enter Try.func54, Try.ntmps54
        go_wp2_with (first | (go_at_call 63; refine (checkDisjoint_any b t o pre post d H x _ (by exact h) ho hs).mono ?_; rintro e w1 ⟨rfl, rfl⟩))
        go_ret
        exact ⟨ret_int (by rw [HT.out]), rfl⟩
    · cases h1 : hasF d.symbols x <;> cases h2 : isTakenVF d x
      all_goals
        go_enter Try.func54, Try.ntmps54
        go_wp2_with (first | (go_at_call 60; refine (has_any (H 6) d.symbols x _ (by exact h.own 6 (by omega)) hs.symbols).mono ?_; rintro e w1 ⟨rfl, rfl⟩) | (go_at_call 62; refine (isTakenV_any b t o pre post d H x _ (by exact h) ho hs).mono ?_; rintro e w1 ⟨rfl, rfl⟩))
        go_ret
        exact ⟨ret_int (by simp [checkSymbolF, k2, k3, h1, h2]), rfl⟩
  · cases h1 : hasF d.symbols x <;> cases h2 : isTakenF d x
    all_goals
      go_enter Try.func54, Try.ntmps54
      go_wp2_with (first | (go_at_call 60; refine (has_any (H 6) d.symbols x _ (by exact h.own 6 (by omega)) hs.symbols).mono ?_; rintro e w1 ⟨rfl, rfl⟩) | (go_at_call 61; refine (isTaken_any b t o pre post d H x _ (by exact h) ho hs).mono ?_; rintro e w1 ⟨rfl, rfl⟩))
      go_ret
      exact ⟨ret_int (by simp [checkSymbolF, k2, h1, h2]), rfl⟩

end Go.Proofs.Ytkblmflajfomaaa
