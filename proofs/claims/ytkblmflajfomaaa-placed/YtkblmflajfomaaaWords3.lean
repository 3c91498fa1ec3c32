/- Package words: IsWord, the two looks into a word, comment, Next. -/
import Derived.Test.YtkblmflajfomaaaWords2
namespace Go.Proofs.Ytkblmflajfomaaa
open Go.RowKit

def isWordF (i : Item) : Bool := i.rule == 0 && !i.fin

set_option maxHeartbeats 400000 in
theorem isWord_any (t n : ByteArray) (r l c : Int) (f : Bool) (w : World) :
    Calls Try.prog 35 #[.agg #[.string t, .int .i64 r, .bool f, .string n, .int .i64 l, .int .i64 c]] w fun e w' => e = .returned (.bool (r == 0 && !f)) ∧ Kept [] w w' := by
  cases hr : (r == 0)
  · go_enter Try.func35, Try.ntmps35
    go_wp2
    go_ret
    exact ⟨ret_bool (by simp), (Kept.refl _ _).alloc _⟩
  · go_enter Try.func35, Try.ntmps35
    go_wp2
    go_ret
    exact ⟨ret_bool (by simp), (Kept.refl _ _).alloc _⟩

/-- Does the text hold a dollar sign? -/
def dollarF (s : ByteArray) : Bool := (List.range s.size).any (fun i => byteAt s i == 36)
/-- Does it hold '$(' or '$)'? -/
def bracketF (s : ByteArray) : Bool := (List.range s.size).any (fun i => decide (1 ≤ i) && (byteAt s (i - 1) == 36) && ((byteAt s i == 40) || (byteAt s i == 41)))

theorem any_yes {n : Nat} {p : Nat → Bool} (i : Nat) (h : i < n) (hp : p i = true) : (List.range n).any p = true := by
  rw [List.any_eq_true]; exact ⟨i, by simpa using h, hp⟩
theorem any_no {n : Nat} {p : Nat → Bool} (h : ∀ i, i < n → p i = false) : (List.range n).any p = false := by
  rw [List.any_eq_false]; intro i hi; simp [h i (by simpa using hi)]

set_option maxHeartbeats 400000 in
theorem dollar_any (s : ByteArray) (w : World) (hs : s.size ≤ 1073741824) :
    Calls Try.prog 49 #[.string s] w fun e w' => e = .returned (.bool (dollarF s)) ∧ w' = w := by
  go_enter Try.func49, Try.ntmps49
  go_wp2
  go_loopg [3] s.size (fun g i wr => ∃ k : Nat, k ≤ s.size ∧ g = s.size - k ∧ i = .int .i64 k ∧ Hid (∀ i, i < k → (byteAt s i == 36) = false) ∧ wr = w)
  case atStart => exact ⟨0, by omega, by omega, rfl, fun i h => by omega, rfl⟩
  case round =>
    obtain ⟨k, hk, hg, rfl, hall, rfl⟩ := hrel
    by_cases hlt : k < s.size
    · cases hb : ((s[k].toNat : Int) == 36)
      · go_wp2
        go_roundg (s.size - (k + 1))
        case measure => omega
        case rel =>
          refine ⟨k + 1, by omega, rfl, by go_num, ?_, rfl⟩
          intro i hi
          by_cases e : i = k
          · subst e; rw [byteAt_of s i hlt]; exact hb
          · exact hall.out i (by omega)
      · have HY : Hid (dollarF s = true) := any_yes k hlt (by rw [byteAt_of s k hlt]; exact hb)
        go_wp2
        go_ret
        exact ⟨ret_bool HY.out.symm, rfl⟩
    · have HY : Hid (dollarF s = false) := any_no (fun i hi => hall.out i (by omega))
      go_wp2
      go_ret
      exact ⟨ret_bool HY.out.symm, rfl⟩

set_option maxHeartbeats 400000 in
theorem bracket_any (s : ByteArray) (w : World) (hs : s.size ≤ 1073741824) :
    Calls Try.prog 48 #[.string s] w fun e w' => e = .returned (.bool (bracketF s)) ∧ w' = w := by
  go_enter Try.func48, Try.ntmps48
  go_wp2
  go_loopg [3] (s.size - 1) (fun g i wr => ∃ k : Nat, 1 ≤ k ∧ (k ≤ s.size ∨ k = 1) ∧ g = s.size - k ∧ i = .int .i64 k ∧ Hid (∀ i, i < k → 1 ≤ i → ((byteAt s (i - 1) == 36) && ((byteAt s i == 40) || (byteAt s i == 41))) = false) ∧ wr = w)
  case atStart => exact ⟨1, by omega, by omega, rfl, rfl, fun i h h' => by omega, rfl⟩
  case round =>
    obtain ⟨k, hk1, hk, hg, rfl, hall, rfl⟩ := hrel
    by_cases hlt : k < s.size
    · have hlt1 : k - 1 < s.size := by omega
      have hq : ∀ b : Bool, (((s[k - 1].toNat : Int) == 36) && (((s[k].toNat : Int) == 40) || ((s[k].toNat : Int) == 41))) = b → ((byteAt s (k - 1) == 36) && ((byteAt s k == 40) || (byteAt s k == 41))) = b :=
        fun b h => by rw [byteAt_of s k hlt, byteAt_of s (k - 1) hlt1]; exact h
      have HQ : Hid (∀ b : Bool, (((s[k - 1].toNat : Int) == 36) && (((s[k].toNat : Int) == 40) || ((s[k].toNat : Int) == 41))) = b → ((byteAt s (k - 1) == 36) && ((byteAt s k == 40) || (byteAt s k == 41))) = b) := hq
      clear hq
      go_wp2
      all_goals first
        | (go_ret
           refine ⟨ret_bool ?_, rfl⟩
           refine (any_yes (p := fun i => decide (1 ≤ i) && (byteAt s (i - 1) == 36) && ((byteAt s i == 40) || (byteAt s i == 41))) k hlt ?_).symm
           have := HQ.out true (by simp_all)
           simp only [Bool.and_assoc, this]; simp [hk1])
        | (go_roundg (s.size - (k + 1))
           case measure => omega
           case rel =>
             refine ⟨k + 1, by omega, by omega, rfl, by go_num, ?_, rfl⟩
             intro i hi h1
             by_cases e : i = k
             · subst e; exact HQ.out false (by simp_all)
             · exact hall.out i (by omega) h1)
    · have HY : Hid (bracketF s = false) := any_no (fun i hi => by
        by_cases h1 : 1 ≤ i
        · have := hall.out i (by omega) h1; simp only [Bool.and_assoc, this]; simp
        · simp [h1])
      go_wp2
      go_ret
      exact ⟨ret_bool HY.out.symm, rfl⟩

end Go.Proofs.Ytkblmflajfomaaa
