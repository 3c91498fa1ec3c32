import Derived.Test.YtcipkfhpcbddiaaGreatG09
/- Package frames: keyword, line, variablesOf. -/
namespace Go.Proofs.YtcipkfhpcbddiaaGreat
open Go.RowKit

def keyF (k : Int) : ByteArray := if (k == 2) = true then ⟨#[36, 102]⟩ else if (k == 3) = true then ⟨#[36, 101]⟩ else if (k == 4) = true then ⟨#[36, 97]⟩ else ⟨#[36, 112]⟩
set_option maxHeartbeats 400000 in
theorem keyword_any (k : Int) (w : World) : Calls Tryz.prog 73 #[.int .i64 k] w fun e w' => e = .returned (.string (keyF k)) ∧ w' = w := by
  cases h2 : (k == 2)
  · cases h3 : (k == 3)
    · cases h4 : (k == 4)
      · have HK : Hid (keyF k = ⟨#[36, 112]⟩) := by show _ = _; simp only [keyF, h2, h3, h4]; rfl
        go_enter Tryz.func73, Tryz.ntmps73
        go_wp2
        go_ret
        exact ⟨by rw [HK.out]; rfl, rfl⟩
      · have HK : Hid (keyF k = ⟨#[36, 97]⟩) := by show _ = _; simp only [keyF, h2, h3, h4]; rfl
        go_enter Tryz.func73, Tryz.ntmps73
        go_wp2
        go_ret
        exact ⟨by rw [HK.out]; rfl, rfl⟩
    · have HK : Hid (keyF k = ⟨#[36, 101]⟩) := by show _ = _; simp only [keyF, h2, h3]; rfl
      go_enter Tryz.func73, Tryz.ntmps73
      go_wp2
      go_ret
      exact ⟨by rw [HK.out]; rfl, rfl⟩
  · have HK : Hid (keyF k = ⟨#[36, 102]⟩) := by show _ = _; simp only [keyF, h2]; rfl
    go_enter Tryz.func73, Tryz.ntmps73
    go_wp2
    go_ret
    exact ⟨by rw [HK.out]; rfl, rfl⟩

/-- A statement as a line. -/
def lineTo (s : St) (k : Nat) : ByteArray := (s.symbols.take k).foldl (fun t x => t ++ (⟨#[32]⟩ ++ x)) (s.label ++ ⟨#[32]⟩ ++ keyF s.kind)
def lineF (s : St) : ByteArray := lineTo s s.symbols.length

theorem lineTo_next (s : St) (k : Nat) (h : k < s.symbols.length) : lineTo s (k + 1) = lineTo s k ++ (⟨#[32]⟩ ++ s.symbols[k]) := by
  unfold lineTo; rw [take_snoc s.symbols k h, List.foldl_append]; rfl
/-- What a line is made of is not long. -/
structure SzOk (s : St) : Prop where
  label : s.label.size ≤ 100000
  syms : ∀ x ∈ s.symbols, x.size ≤ 100000
theorem keyF_size (k : Int) : (keyF k).size = 2 := by
  unfold keyF
  repeat' split
  all_goals rfl
theorem one_size : (⟨#[32]⟩ : ByteArray).size = 1 := rfl
theorem lineTo_size (s : St) (h : SzOk s) (k : Nat) (hk : k ≤ s.symbols.length) : (lineTo s k).size ≤ 100003 + k * 100001 := by
  induction k with
  | zero =>
    unfold lineTo
    have := h.label
    simp only [List.take_zero, List.foldl_nil, ByteArray.size_append, one_size, keyF_size]
    omega
  | succ k ih =>
    have hx := h.syms _ (List.getElem_mem (show k < s.symbols.length by omega))
    rw [lineTo_next s k (by omega)]
    simp only [ByteArray.size_append, one_size]
    have := ih (by omega)
    omega

def varOne (l : List St) (n : Nat) : Option ByteArray := match l[n]? with
  | some s => if (s.kind == 2) = true then some (variableF s) else none
  | none => none
/-- The variables of hypotheses. -/
def varsTo (l : List St) (hs : List Nat) (k : Nat) : List ByteArray := (hs.take k).filterMap (varOne l)
def varsOfF (l : List St) (hs : List Nat) : List ByteArray := hs.filterMap (varOne l)
theorem varsTo_yes (l : List St) (hs : List Nat) (k : Nat) (h : k < hs.length) (hn : hs[k] < l.length) (hk : (l[hs[k]].kind == 2) = true) : varsTo l hs (k + 1) = varsTo l hs k ++ [variableF l[hs[k]]] := by
  unfold varsTo; rw [take_snoc hs k h, List.filterMap_append]
  have : varOne l hs[k] = some (variableF l[hs[k]]) := by unfold varOne; rw [List.getElem?_eq_getElem hn]; simp [hk]
  simp [this]
theorem varsTo_no (l : List St) (hs : List Nat) (k : Nat) (h : k < hs.length) (hn : hs[k] < l.length) (hk : (l[hs[k]].kind == 2) = false) : varsTo l hs (k + 1) = varsTo l hs k := by
  unfold varsTo; rw [take_snoc hs k h, List.filterMap_append]
  have : varOne l hs[k] = none := by unfold varOne; rw [List.getElem?_eq_getElem hn]; simp [hk]
  simp [this]
theorem varsTo_len (l : List St) (hs : List Nat) (k : Nat) : (varsTo l hs k).length ≤ hs.length := by
  unfold varsTo
  have h1 := List.length_filterMap_le (varOne l) (hs.take k)
  have h2 : (hs.take k).length ≤ hs.length := by simp; omega
  omega

end Go.Proofs.YtcipkfhpcbddiaaGreat
