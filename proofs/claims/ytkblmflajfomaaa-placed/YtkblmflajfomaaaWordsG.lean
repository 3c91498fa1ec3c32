/- Package words, as functions: comment, Next. -/
import Derived.Test.YtkblmflajfomaaaWords3
namespace Go.Proofs.Ytkblmflajfomaaa
open Go.RowKit

theorem runF_le (d : ByteArray) (k : Nat) (h : k ≤ d.size) : k ≤ (runF d k).2 ∧ (runF d k).2 ≤ d.size ∧ (isWordF (runF d k).1 = true → k < (runF d k).2) := by
  have a := skip_le d k h
  have b := wordEnd_le d (skip d k) a.2
  unfold runF
  simp only
  split
  · exact ⟨by omega, b.2, by simp [isWordF]⟩
  · split
    · exact ⟨by omega, b.2, by simp [isWordF]⟩
    · exact ⟨by simp only; omega, b.2, fun _ => by simp only; omega⟩

/-- Behind a comment: its last item, and the place; the fuel: more than the bytes that are left. -/
def commentTo (d : ByteArray) : Nat → Nat → Item × Nat
  | 0, k => (⟨⟨#[]⟩, 3, false, k⟩, k)
  | f + 1, k =>
    if isWordF (runF d k).1 = true ∧ ¬ (runF d k).1.text.toList = [36, 41] then
      if bracketF (runF d k).1.text = true then (⟨⟨#[]⟩, 2, false, (runF d k).1.pos⟩, (runF d k).2) else commentTo d f (runF d k).2
    else if (runF d k).1.fin = true then (⟨⟨#[]⟩, 3, false, (runF d k).1.pos⟩, (runF d k).2) else runF d k
def commentF (d : ByteArray) (k : Nat) : Item × Nat := commentTo d (d.size - k + 1) k

/-- More fuel changes nothing. -/
theorem commentTo_fuel (d : ByteArray) (f k : Nat) (hk : k ≤ d.size) (hf : d.size - k + 1 ≤ f) : commentTo d f k = commentF d k := by
  unfold commentF
  suffices h : ∀ f g k, k ≤ d.size → d.size - k + 1 ≤ f → d.size - k + 1 ≤ g → commentTo d f k = commentTo d g k from h _ _ _ hk hf (Nat.le_refl _)
  clear hf hk f k
  intro f
  induction f with
  | zero => intro g k _ h; omega
  | succ f ih =>
    intro g k hk hf hg
    cases g with
    | zero => omega
    | succ g =>
      rw [commentTo, commentTo]
      split
      · next h =>
        have hl := runF_le d k hk
        have hl2 := hl.2.2 h.1
        split
        · rfl
        · exact ih g (runF d k).2 hl.2.1 (by omega) (by omega)
      · rfl

theorem comment_on (d : ByteArray) (k : Nat) (hk : k ≤ d.size) (h1 : isWordF (runF d k).1 = true) (h2 : ((runF d k).1.text.toList == [36, 41]) = false) (h3 : bracketF (runF d k).1.text = false) : commentF d k = commentF d (runF d k).2 := by
  have hl := runF_le d k hk
  have hl2 := hl.2.2 h1
  conv => lhs; unfold commentF
  rw [commentTo, if_pos ⟨h1, by simpa using h2⟩, if_neg (by simp [h3]), commentTo_fuel d _ _ hl.2.1 (by omega)]
theorem comment_nest (d : ByteArray) (k : Nat) (h1 : isWordF (runF d k).1 = true) (h2 : ((runF d k).1.text.toList == [36, 41]) = false) (h3 : bracketF (runF d k).1.text = true) : commentF d k = (⟨⟨#[]⟩, 2, false, (runF d k).1.pos⟩, (runF d k).2) := by
  unfold commentF
  rw [commentTo, if_pos ⟨h1, by simpa using h2⟩, if_pos h3]
theorem comment_open (d : ByteArray) (k : Nat) (h1 : isWordF (runF d k).1 = false) (h2 : (runF d k).1.fin = true) : commentF d k = (⟨⟨#[]⟩, 3, false, (runF d k).1.pos⟩, (runF d k).2) := by
  unfold commentF
  rw [commentTo, if_neg (by simp [h1]), if_pos h2]
theorem comment_bad (d : ByteArray) (k : Nat) (h1 : isWordF (runF d k).1 = false) (h2 : (runF d k).1.fin = false) : commentF d k = runF d k := by
  unfold commentF
  rw [commentTo, if_neg (by simp [h1]), if_neg (by simp [h2])]
theorem comment_close (d : ByteArray) (k : Nat) (h1 : isWordF (runF d k).1 = true) (h2 : ((runF d k).1.text.toList == [36, 41]) = true) : commentF d k = runF d k := by
  unfold commentF
  rw [commentTo, if_neg (by intro h; exact h.2 (by simpa using h2))]
  rw [if_neg (by intro h; simp [isWordF, h] at h1)]

theorem commentF_le (d : ByteArray) (k : Nat) (hk : k ≤ d.size) : k ≤ (commentF d k).2 ∧ (commentF d k).2 ≤ d.size := by
  unfold commentF
  suffices h : ∀ f k, k ≤ d.size → k ≤ (commentTo d f k).2 ∧ (commentTo d f k).2 ≤ d.size from h _ _ hk
  clear hk k
  intro f
  induction f with
  | zero => intro k hk; simp [commentTo, hk]
  | succ f ih =>
    intro k hk
    have hl := runF_le d k hk
    rw [commentTo]
    split
    · split
      · exact ⟨hl.1, hl.2.1⟩
      · have := ih (runF d k).2 hl.2.1; omega
    · split
      · exact ⟨hl.1, hl.2.1⟩
      · exact ⟨hl.1, hl.2.1⟩

/-- The next word that is in no comment. -/
def nextTo (d : ByteArray) : Nat → Nat → Item × Nat
  | 0, k => (⟨⟨#[]⟩, 0, true, k⟩, k)
  | f + 1, k =>
    if isWordF (runF d k).1 = true ∧ (runF d k).1.text.toList = [36, 40] then
      if isWordF (commentF d (runF d k).2).1 = true then nextTo d f (commentF d (runF d k).2).2 else commentF d (runF d k).2
    else runF d k
def nextF (d : ByteArray) (k : Nat) : Item × Nat := nextTo d (d.size - k + 1) k

theorem nextTo_fuel (d : ByteArray) (f k : Nat) (hk : k ≤ d.size) (hf : d.size - k + 1 ≤ f) : nextTo d f k = nextF d k := by
  unfold nextF
  suffices h : ∀ f g k, k ≤ d.size → d.size - k + 1 ≤ f → d.size - k + 1 ≤ g → nextTo d f k = nextTo d g k from h _ _ _ hk hf (Nat.le_refl _)
  clear hf hk f k
  intro f
  induction f with
  | zero => intro g k _ h; omega
  | succ f ih =>
    intro g k hk hf hg
    cases g with
    | zero => omega
    | succ g =>
      rw [nextTo, nextTo]
      split
      · next h =>
        have hl := runF_le d k hk
        have hl2 := hl.2.2 h.1
        have hc := commentF_le d (runF d k).2 hl.2.1
        split
        · exact ih g _ hc.2 (by omega) (by omega)
        · rfl
      · rfl
theorem next_on (d : ByteArray) (k : Nat) (hk : k ≤ d.size) (h1 : isWordF (runF d k).1 = true) (h2 : ((runF d k).1.text.toList == [36, 40]) = true) (h3 : isWordF (commentF d (runF d k).2).1 = true) :
    nextF d k = nextF d (commentF d (runF d k).2).2 := by
  have hl := runF_le d k hk
  have hl2 := hl.2.2 h1
  have hc := commentF_le d (runF d k).2 hl.2.1
  conv => lhs; unfold nextF
  rw [nextTo, if_pos ⟨h1, by simpa using h2⟩, if_pos h3, nextTo_fuel d _ _ hc.2 (by omega)]
theorem next_broken (d : ByteArray) (k : Nat) (h1 : isWordF (runF d k).1 = true) (h2 : ((runF d k).1.text.toList == [36, 40]) = true) (h3 : isWordF (commentF d (runF d k).2).1 = false) :
    nextF d k = commentF d (runF d k).2 := by
  unfold nextF
  rw [nextTo, if_pos ⟨h1, by simpa using h2⟩, if_neg (by simp [h3])]
theorem next_plain (d : ByteArray) (k : Nat) (h : isWordF (runF d k).1 = false ∨ ((runF d k).1.text.toList == [36, 40]) = false) : nextF d k = runF d k := by
  unfold nextF
  rw [nextTo, if_neg (by rintro ⟨a, b⟩; rcases h with h | h; · simp [h] at a
                         · simp [b] at h)]
theorem nextF_le (d : ByteArray) (k : Nat) (hk : k ≤ d.size) : k ≤ (nextF d k).2 ∧ (nextF d k).2 ≤ d.size ∧ (isWordF (nextF d k).1 = true → k < (nextF d k).2) := by
  unfold nextF
  suffices h : ∀ f k, k ≤ d.size → k ≤ (nextTo d f k).2 ∧ (nextTo d f k).2 ≤ d.size ∧ (isWordF (nextTo d f k).1 = true → k < (nextTo d f k).2) from h _ _ hk
  clear hk k
  intro f
  induction f with
  | zero => intro k hk; simp [nextTo, hk, isWordF]
  | succ f ih =>
    intro k hk
    have hl := runF_le d k hk
    have hc := commentF_le d (runF d k).2 hl.2.1
    rw [nextTo]
    split
    · next h =>
      have hl2 := hl.2.2 h.1
      split
      · have := ih (commentF d (runF d k).2).2 hc.2; omega
      · omega
    · exact hl

end Go.Proofs.Ytkblmflajfomaaa
