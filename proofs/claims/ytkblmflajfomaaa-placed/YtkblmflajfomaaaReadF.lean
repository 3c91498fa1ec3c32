/- Package reader, as a function of the data: a file without inclusions. -/
import Derived.Test.YtkblmflajfomaaaRead1
namespace Go.Proofs.Ytkblmflajfomaaa
open Go.RowKit

def emptyDb : Db := ⟨[], [], [], [], [], [], 0, [], false⟩

def readTo (s : ByteArray) : Nat → Nat → Db → Int × Nat
  | 0, _, _ => (0, 0)
  | f + 1, k, d =>
    if isWordF (nextF s k).1 = true then
      (if ((takeF d (nextF s k).1.text).1 == 0) = true then readTo s f (nextF s k).2 (takeF d (nextF s k).1.text).2 else ((takeF d (nextF s k).1.text).1, (nextF s k).1.pos))
    else if (nextF s k).1.fin = true then (if openF d = false then (0, 0) else (7, (nextF s k).1.pos)) else ((nextF s k).1.rule, (nextF s k).1.pos)
/-- The first fault from place k on: its rule and place; rule 0: none. -/
def readF (s : ByteArray) (k : Nat) (d : Db) : Int × Nat := readTo s (s.size - k + 1) k d

theorem readTo_fuel (s : ByteArray) (f k : Nat) (d : Db) (hk : k ≤ s.size) (hf : s.size - k + 1 ≤ f) : readTo s f k d = readF s k d := by
  unfold readF
  suffices h : ∀ f g k d, k ≤ s.size → s.size - k + 1 ≤ f → s.size - k + 1 ≤ g → readTo s f k d = readTo s g k d from h _ _ _ _ hk hf (Nat.le_refl _)
  clear hf hk f k d
  intro f
  induction f with
  | zero => intro g k d _ h; omega
  | succ f ih =>
    intro g k d hk hf hg
    cases g with
    | zero => omega
    | succ g =>
      rw [readTo, readTo]
      split
      · next h =>
        have hl := nextF_le s k hk
        have hl2 := hl.2.2 h
        split
        · exact ih g _ _ hl.2.1 (by omega) (by omega)
        · rfl
      · rfl
theorem read_on (s : ByteArray) (k : Nat) (d : Db) (hk : k ≤ s.size) (h1 : isWordF (nextF s k).1 = true) (h2 : ((takeF d (nextF s k).1.text).1 == 0) = true) : readF s k d = readF s (nextF s k).2 (takeF d (nextF s k).1.text).2 := by
  have hl := nextF_le s k hk
  have hl2 := hl.2.2 h1
  conv => lhs; unfold readF
  rw [readTo, if_pos h1, if_pos h2, readTo_fuel s _ _ _ hl.2.1 (by omega)]
theorem read_rule (s : ByteArray) (k : Nat) (d : Db) (h1 : isWordF (nextF s k).1 = true) (h2 : ((takeF d (nextF s k).1.text).1 == 0) = false) : readF s k d = ((takeF d (nextF s k).1.text).1, (nextF s k).1.pos) := by
  unfold readF
  rw [readTo, if_pos h1, if_neg (by simp [h2])]
theorem read_end (s : ByteArray) (k : Nat) (d : Db) (h1 : isWordF (nextF s k).1 = false) (h2 : (nextF s k).1.fin = true) (h3 : openF d = false) : readF s k d = (0, 0) := by
  unfold readF
  rw [readTo, if_neg (by simp [h1]), if_pos h2, if_pos h3]
theorem read_open (s : ByteArray) (k : Nat) (d : Db) (h1 : isWordF (nextF s k).1 = false) (h2 : (nextF s k).1.fin = true) (h3 : openF d = true) : readF s k d = (7, (nextF s k).1.pos) := by
  unfold readF
  rw [readTo, if_neg (by simp [h1]), if_pos h2, if_neg (by simp [h3])]
theorem read_bad (s : ByteArray) (k : Nat) (d : Db) (h1 : isWordF (nextF s k).1 = false) (h2 : (nextF s k).1.fin = false) : readF s k d = ((nextF s k).1.rule, (nextF s k).1.pos) := by
  unfold readF
  rw [readTo, if_neg (by simp [h1]), if_neg (by simp [h2])]

/-- How long the lists can be behind m words. -/
structure Bnd (d : Db) (m : Nat) : Prop where
  labels : d.labels.length ≤ m
  constants : d.constants.length + d.symbols.length ≤ m
  variables : d.variables.length + d.symbols.length ≤ m
  active : d.active.length + d.symbols.length ≤ m
  typed : d.typed.length + d.symbols.length ≤ m
  blocks : d.blocks.length ≤ m
  inner : ∀ p, p ∈ d.blocks → p.1 ≤ m ∧ p.2 ≤ m

theorem Bnd.small {d : Db} {m N : Nat} (h : Bnd d m) (hN : m ≤ N) : Small d N ∧ Inner d N :=
  ⟨⟨by have := h.labels; omega, by have := h.constants; omega, by have := h.variables; omega, by have := h.active; omega, by have := h.typed; omega, by have := h.blocks; omega, by have := h.constants; omega⟩,
   fun p hp => by have := h.inner p hp; omega⟩
theorem Bnd.more {d : Db} {m : Nat} (h : Bnd d m) : Bnd d (m + 1) :=
  ⟨by have := h.labels; omega, by have := h.constants; omega, by have := h.variables; omega, by have := h.active; omega, by have := h.typed; omega, by have := h.blocks; omega, fun p hp => by have := h.inner p hp; omega⟩

theorem Bnd.kind {d : Db} {m : Nat} (h : Bnd d m) (k : Int) (b : Bool) : Bnd { d with kind := k, inProof := b } m := ⟨h.labels, h.constants, h.variables, h.active, h.typed, h.blocks, h.inner⟩

theorem Bnd.take {d : Db} {m : Nat} (h : Bnd d m) (x : ByteArray) : Bnd (takeF d x).2 (m + 1) := by
  have h' := h.more
  have hk := fun k => h'.kind k d.inProof
  have e1 := h.labels
  have e2 := h.constants
  have e3 := h.variables
  have e4 := h.active
  have e5 := h.typed
  have e6 := h.blocks
  have hlab : Bnd (takeLabelF d x).2 (m + 1) := by
    unfold takeLabelF
    split
    · exact h'
    · split
      · exact h'
      · split
        · exact h'
        · exact ⟨by simp; omega, h'.constants, h'.variables, h'.active, h'.typed, h'.blocks, h'.inner⟩
  have hkey : Bnd (takeKeywordF d x).2 (m + 1) := by
    unfold takeKeywordF
    split
    · exact hk 5
    · split
      · exact hk 6
      · split
        · exact hk 7
        · split
          · exact hk 8
          · exact h'
  have hfst : Bnd (takeFirstF d x).2 (m + 1) := by
    unfold takeFirstF
    split
    · refine ⟨h'.labels, h'.constants, h'.variables, h'.active, h'.typed, by simp; omega, ?_⟩
      intro p hp
      simp only [List.mem_append, List.mem_singleton] at hp
      rcases hp with hp | rfl
      · exact h'.inner p hp
      · simp only; omega
    · split
      · split
        · exact h'
        · next p hp =>
          have e : d.blocks = d.blocks.dropLast ++ [p] := last_split hp
          refine ⟨h'.labels, h'.constants, h'.variables, ?_, ?_, ?_, ?_⟩
          · simp only [endBlockF, List.length_take]; omega
          · simp only [endBlockF, List.length_take]; omega
          · simp only [endBlockF, List.length_dropLast]; omega
          · intro q hq
            simp only [endBlockF] at hq
            exact h'.inner q (List.dropLast_subset _ hq)
      · split
        · split
          · exact h'
          · exact hk 2
        · split
          · exact hk 3
          · split
            · exact hk 4
            · split
              · exact h'
              · exact hlab
  have hend : Bnd (endF d).2 (m + 1) := by
    unfold endF
    split
    · exact h'
    · split
      · exact h'
      · have p := declTo_plain d d.symbols.length
        refine ⟨?_, ?_, ?_, ?_, ?_, ?_, ?_⟩
        · show (declareF d).labels.length ≤ _; unfold declareF; rw [p.2.2.2.1]; omega
        · show (declareF d).constants.length + 0 ≤ _; unfold declareF; omega
        · show (declareF d).variables.length + 0 ≤ _; unfold declareF; omega
        · show (declareF d).active.length + 0 ≤ _; unfold declareF; omega
        · show (declareF d).typed.length + 0 ≤ _; unfold declareF; omega
        · show (declareF d).blocks.length ≤ _; unfold declareF; rw [p.2.2.1]; omega
        · intro q hq
          have hq' : q ∈ (declareF d).blocks := hq
          unfold declareF at hq'
          rw [p.2.2.1] at hq'
          exact h'.inner q hq'
  unfold takeF
  split
  · exact hfst
  · split
    · exact hkey
    · split
      · exact hend
      · split
        · unfold beginProofF
          split
          · exact h'
          · exact h'.kind d.kind true
        · split
          · exact h'
          · split
            · exact h'
            · split
              · exact ⟨h'.labels, by simp; omega, by simp; omega, by simp; omega, by simp; omega, h'.blocks, h'.inner⟩
              · exact h'

end Go.Proofs.Ytkblmflajfomaaa
