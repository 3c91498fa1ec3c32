/- Package words, as functions of the data: no walk. -/
import Derived.Test.YtkblmflajfomaaaWords1
namespace Go.Proofs.Ytkblmflajfomaaa
open Go.RowKit

/-- Behind the blanks at k. -/
def skipTo (d : ByteArray) : Nat → Nat → Nat
  | 0, k => k
  | f + 1, k => if k < d.size ∧ blankB (byteAt d k) = true then skipTo d f (k + 1) else k
def skip (d : ByteArray) (k : Nat) : Nat := skipTo d (d.size - k) k

/-- Behind the printable bytes at k. -/
def wordTo (d : ByteArray) : Nat → Nat → Nat
  | 0, k => k
  | f + 1, k => if k < d.size ∧ blankB (byteAt d k) = false ∧ plainB (byteAt d k) = true then wordTo d f (k + 1) else k
def wordEnd (d : ByteArray) (k : Nat) : Nat := wordTo d (d.size - k) k

theorem skip_on (d : ByteArray) (k : Nat) (h : k < d.size) (hb : blankB (byteAt d k) = true) : skip d k = skip d (k + 1) := by
  unfold skip
  rw [show d.size - k = (d.size - (k + 1)) + 1 by omega]
  rw [skipTo, if_pos ⟨h, hb⟩]
theorem skip_off (d : ByteArray) (k : Nat) (h : ¬ (k < d.size ∧ blankB (byteAt d k) = true)) : skip d k = k := by
  unfold skip
  cases d.size - k with
  | zero => rfl
  | succ f => rw [skipTo, if_neg h]
theorem word_on (d : ByteArray) (k : Nat) (h : k < d.size) (hb : blankB (byteAt d k) = false) (hp : plainB (byteAt d k) = true) : wordEnd d k = wordEnd d (k + 1) := by
  unfold wordEnd
  rw [show d.size - k = (d.size - (k + 1)) + 1 by omega]
  rw [wordTo, if_pos ⟨h, hb, hp⟩]
theorem word_off (d : ByteArray) (k : Nat) (h : ¬ (k < d.size ∧ blankB (byteAt d k) = false ∧ plainB (byteAt d k) = true)) : wordEnd d k = k := by
  unfold wordEnd
  cases d.size - k with
  | zero => rfl
  | succ f => rw [wordTo, if_neg h]

theorem skipTo_le (d : ByteArray) (f k : Nat) : k ≤ skipTo d f k ∧ (k ≤ d.size → skipTo d f k ≤ d.size) := by
  induction f generalizing k with
  | zero => simp [skipTo]
  | succ f ih =>
    rw [skipTo]; split
    · have := ih (k + 1); omega
    · omega
theorem wordTo_le (d : ByteArray) (f k : Nat) : k ≤ wordTo d f k ∧ (k ≤ d.size → wordTo d f k ≤ d.size) := by
  induction f generalizing k with
  | zero => simp [wordTo]
  | succ f ih =>
    rw [wordTo]; split
    · have := ih (k + 1); omega
    · omega
theorem skip_le (d : ByteArray) (k : Nat) (h : k ≤ d.size) : k ≤ skip d k ∧ skip d k ≤ d.size := ⟨(skipTo_le d _ k).1, (skipTo_le d _ k).2 h⟩
theorem wordEnd_le (d : ByteArray) (k : Nat) (h : k ≤ d.size) : k ≤ wordEnd d k ∧ wordEnd d k ≤ d.size := ⟨(wordTo_le d _ k).1, (wordTo_le d _ k).2 h⟩

/-- An item, at a place of its file. -/
structure Item where
  text : ByteArray
  rule : Int
  fin : Bool
  pos : Nat

def itemV (n d : ByteArray) (i : Item) : Value := .agg #[.string i.text, .int .i64 i.rule, .bool i.fin, .string n, .int .i64 (lineAt d i.pos), .int .i64 (colAt d i.pos)]

/-- What 'run' tells at place k, and where it leaves the scanner. -/
def runF (d : ByteArray) (k : Nat) : Item × Nat :=
  let a := skip d k
  let z := wordEnd d a
  if z < d.size ∧ blankB (byteAt d z) = false then (⟨⟨#[]⟩, 1, false, z⟩, z)
  else if z ≤ a then (⟨⟨#[]⟩, 0, true, a⟩, z)
  else (⟨d.extract a z, 0, false, a⟩, z)

theorem runF_bad (d : ByteArray) (k j z : Nat) (hj : j = skip d k) (hw : wordEnd d z = wordEnd d j) (hz : z < d.size) (hb : blankB (byteAt d z) = false) (hp : plainB (byteAt d z) = false) :
    runF d k = (⟨⟨#[]⟩, 1, false, z⟩, z) := by
  have e : wordEnd d (skip d k) = z := by rw [← hj, ← hw]; exact word_off d z (fun h => by simp [hp] at h)
  simp only [runF, e]
  rw [if_pos ⟨hz, hb⟩]
theorem runF_end (d : ByteArray) (k j z : Nat) (hj : j = skip d k) (hw : wordEnd d z = wordEnd d j) (hs : ¬ (z < d.size ∧ blankB (byteAt d z) = false)) (hz : z ≤ j) :
    runF d k = (⟨⟨#[]⟩, 0, true, j⟩, z) := by
  have e : wordEnd d (skip d k) = z := by rw [← hj, ← hw]; exact word_off d z (fun h => hs ⟨h.1, h.2.1⟩)
  simp only [runF, e]
  rw [if_neg hs, ← hj, if_pos hz]
theorem runF_word (d : ByteArray) (k j z : Nat) (hj : j = skip d k) (hw : wordEnd d z = wordEnd d j) (hs : ¬ (z < d.size ∧ blankB (byteAt d z) = false)) (hz : j < z) :
    runF d k = (⟨d.extract j z, 0, false, j⟩, z) := by
  have e : wordEnd d (skip d k) = z := by rw [← hj, ← hw]; exact word_off d z (fun h => hs ⟨h.1, h.2.1⟩)
  simp only [runF, e]
  rw [if_neg hs, ← hj, if_neg (by omega)]

/-- The four ways at place z of a word. -/
theorem word_ways (d : ByteArray) (z : Nat) :
    (∃ h : z < d.size, blankB ((d[z]'h).toNat : Int) = false ∧ plainB ((d[z]'h).toNat : Int) = true ∧ wordEnd d (z + 1) = wordEnd d z) ∨
    (∃ h : z < d.size, blankB ((d[z]'h).toNat : Int) = false ∧ plainB ((d[z]'h).toNat : Int) = false) ∨
    (∃ h : z < d.size, blankB ((d[z]'h).toNat : Int) = true) ∨ (¬ z < d.size ∧ decide ((z : Int) < (d.size : Int)) = false) := by
  by_cases h : z < d.size
  · have e := byteAt_of d z h
    cases hb : blankB (byteAt d z) with
    | true => exact Or.inr (Or.inr (Or.inl ⟨h, e ▸ hb⟩))
    | false =>
      cases hp : plainB (byteAt d z) with
      | true => exact Or.inl ⟨h, e ▸ hb, e ▸ hp, (word_on d z h hb hp).symm⟩
      | false => exact Or.inr (Or.inl ⟨h, e ▸ hb, e ▸ hp⟩)
  · exact Or.inr (Or.inr (Or.inr ⟨h, by simp; omega⟩))

end Go.Proofs.Ytkblmflajfomaaa
