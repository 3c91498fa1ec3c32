/- Package statements: what the words so far have declared, as a value, and in memory. -/
import Derived.Test.YtkblmflajfomaaaOwn
import Derived.Test.YtkblmflajfomaaaWords3
namespace Go.Proofs.Ytkblmflajfomaaa
open Go.RowKit

structure Db where
  labels : List ByteArray
  constants : List ByteArray
  variables : List ByteArray
  active : List ByteArray
  typed : List ByteArray
  blocks : List (Nat × Nat)
  kind : Int
  symbols : List ByteArray
  inProof : Bool

def strs (l : List ByteArray) : List Value := l.map Value.string
def pairs (l : List (Nat × Nat)) : List Value := l.flatMap (fun p => [.int .i64 p.1, .int .i64 p.2])
def rowS (l : List ByteArray) : Row := ⟨9, 1, l.length, strs l⟩
def rowB (l : List (Nat × Nat)) : Row := ⟨102, 2, l.length, pairs l⟩
def rowsOf (d : Db) : Nat → Row
  | 0 => rowS d.labels
  | 1 => rowS d.constants
  | 2 => rowS d.variables
  | 3 => rowS d.active
  | 4 => rowS d.typed
  | 5 => rowB d.blocks
  | _ => rowS d.symbols

def dbList (d : Db) (H : Nat → Hd) : List Value :=
  [.slice (H 0).ao d.labels.length (H 0).cap, .slice (H 1).ao d.constants.length (H 1).cap, .slice (H 2).ao d.variables.length (H 2).cap, .slice (H 3).ao d.active.length (H 3).cap,
   .slice (H 4).ao d.typed.length (H 4).cap, .slice (H 5).ao d.blocks.length (H 5).cap, .int .i64 d.kind, .slice (H 6).ao d.symbols.length (H 6).cap, .bool d.inProof]

def upd {α : Type} (H : Nat → α) (i : Nat) (h : α) : Nat → α := fun j => if j = i then h else H j
theorem upd_same {α : Type} (H : Nat → α) (i : Nat) (h : α) : upd H i h i = h := by simp [upd]
theorem upd_other {α : Type} (H : Nat → α) (i j : Nat) (h : α) (hj : j ≠ i) : upd H i h j = H j := by simp [upd, hj]

/-- The database at the cells from pre.length on of block b (of type t): its slices in arrays of their own. -/
structure DbIs (w : World) (b t : Nat) (pre post : List Value) (d : Db) (H : Nat → Hd) : Prop where
  blk : w.heap[b]? = some (.cells (pre ++ (dbList d H ++ post)).toArray t (0, 0))
  own : ∀ i, i < 7 → Owns w (H i) (rowsOf d i)
  apart : ∀ i j, i < 7 → j < 7 → i ≠ j → (H i).blk = none ∨ (H i).blk ≠ (H j).blk
  off : ∀ i, i < 7 → (H i).blk ≠ some b

def blks (H : Nat → Hd) : List Nat := (List.range 7).filterMap (fun i => (H i).blk)
theorem mem_blks {H : Nat → Hd} {k : Nat} : k ∈ blks H ↔ ∃ i, i < 7 ∧ (H i).blk = some k := by
  simp [blks, List.mem_filterMap]

theorem DbIs.lt {w : World} {b t : Nat} {pre post : List Value} {d : Db} {H : Nat → Hd} (h : DbIs w b t pre post d H) : b < w.heap.size := lt_of_get h.blk
theorem DbIs.free {w : World} {b t : Nat} {pre post : List Value} {d : Db} {H : Nat → Hd} (h : DbIs w b t pre post d H) (i : Nat) : w.frozen? ⟨b, i, none⟩ = false := free_of h.blk i

theorem DbIs.kept {w w' : World} {b t : Nat} {pre post : List Value} {d : Db} {H : Nat → Hd} {S : List Nat} (h : DbIs w b t pre post d H) (hk : Kept S w w') (hb : b ∉ S) (hs : ∀ k, k ∈ blks H → k ∉ S) : DbIs w' b t pre post d H :=
  ⟨hk.get h.blk hb, fun i hi => (h.own i hi).moved (fun k hk' => hk.block k ((h.own i hi).lt hk') (hs k (mem_blks.2 ⟨i, hi, hk'⟩))), h.apart, h.off⟩
theorem DbIs.still {w w' : World} {b t : Nat} {pre post : List Value} {d : Db} {H : Nat → Hd} (h : DbIs w b t pre post d H) (hk : Kept [] w w') : DbIs w' b t pre post d H := h.kept hk (by simp) (by simp)

theorem mid_get (pre l post : List Value) (o i : Nat) (ho : pre.length = o) (hi : i < l.length) : (pre ++ (l ++ post)).toArray[o + i]? = l[i]? := by
  subst ho
  simp [List.getElem?_append_right, List.getElem?_append_left hi]
theorem mid_set (pre l post : List Value) (o i : Nat) (u : Value) (ho : pre.length = o) (hi : i < l.length) : (pre ++ (l ++ post)).set (o + i) u = pre ++ (l.set i u ++ post) := by
  subst ho
  rw [List.set_append_right _ _ (by omega), show pre.length + i - pre.length = i by omega, List.set_append_left _ _ hi]

theorem DbIs.cells {w : World} {b t : Nat} {pre post : List Value} {d : Db} {H : Nat → Hd} (h : DbIs w b t pre post d H) (o : Nat) (ho : pre.length = o) :
    w.cell? ⟨b, o, none⟩ = some (.slice (H 0).ao d.labels.length (H 0).cap) ∧ w.cell? ⟨b, o + 1, none⟩ = some (.slice (H 1).ao d.constants.length (H 1).cap) ∧
    w.cell? ⟨b, o + 2, none⟩ = some (.slice (H 2).ao d.variables.length (H 2).cap) ∧ w.cell? ⟨b, o + 3, none⟩ = some (.slice (H 3).ao d.active.length (H 3).cap) ∧
    w.cell? ⟨b, o + 4, none⟩ = some (.slice (H 4).ao d.typed.length (H 4).cap) ∧ w.cell? ⟨b, o + 5, none⟩ = some (.slice (H 5).ao d.blocks.length (H 5).cap) ∧
    w.cell? ⟨b, o + 6, none⟩ = some (.int .i64 d.kind) ∧ w.cell? ⟨b, o + 7, none⟩ = some (.slice (H 6).ao d.symbols.length (H 6).cap) ∧ w.cell? ⟨b, o + 8, none⟩ = some (.bool d.inProof) := by
  have g := fun i => cell_of h.blk (o + i)
  have m := fun i (hi : i < 9) => (g i).trans (mid_get pre (dbList d H) post o i ho hi)
  exact ⟨m 0 (by omega), m 1 (by omega), m 2 (by omega), m 3 (by omega), m 4 (by omega), m 5 (by omega), m 6 (by omega), m 7 (by omega), m 8 (by omega)⟩

/-- What a step of the database may turn: its block, its arrays; new arrays are new blocks. -/
def Turned (b : Nat) (w : World) (H : Nat → Hd) (w' : World) (H' : Nat → Hd) : Prop :=
  Kept (b :: blks H) w w' ∧ ∀ k, k ∈ blks H' → k ∈ blks H ∨ w.heap.size ≤ k
theorem Turned.refl (b : Nat) (w : World) (H : Nat → Hd) : Turned b w H w H := ⟨Kept.refl _ _, fun _ hk => Or.inl hk⟩
theorem Turned.trans {b : Nat} {w0 w1 w2 : World} {H0 H1 H2 : Nat → Hd} (a : Turned b w0 H0 w1 H1) (c : Turned b w1 H1 w2 H2) : Turned b w0 H0 w2 H2 := by
  refine ⟨⟨c.1.os.trans a.1.os, c.1.tape.trans a.1.tape, c.1.output.trans a.1.output, Nat.le_trans a.1.size c.1.size, ?_⟩, ?_⟩
  · intro k hk hn
    rw [← a.1.block k hk hn]
    refine c.1.block k (Nat.lt_of_lt_of_le hk a.1.size) ?_
    intro hm
    rcases List.mem_cons.1 hm with e | hm
    · exact hn (List.mem_cons.2 (Or.inl e))
    · rcases a.2 k hm with h | h
      · exact hn (List.mem_cons.2 (Or.inr h))
      · omega
  · intro k hk
    rcases c.2 k hk with h | h
    · exact a.2 k h
    · exact Or.inr (Nat.le_trans a.1.size h)
theorem Turned.still {b : Nat} {w0 w1 w2 : World} {H0 H1 : Nat → Hd} (a : Turned b w0 H0 w1 H1) (c : Kept [] w1 w2) : Turned b w0 H0 w2 H1 :=
  a.trans ⟨c.mono (by simp), fun _ hk => Or.inl hk⟩
theorem Turned.first {b : Nat} {w0 w1 w2 : World} {H0 H1 : Nat → Hd} (c : Kept [] w0 w1) (a : Turned b w1 H0 w2 H1) : Turned b w0 H0 w2 H1 :=
  Turned.trans ⟨c.mono (by simp), fun _ hk => Or.inl hk⟩ a

/-- A slice has been put into its cell: appended to, cut, or made nil. -/
theorem DbIs.put {w w1 : World} {b t : Nat} {pre post : List Value} {d d' : Db} {H : Nat → Hd} (h : DbIs w b t pre post d H) (o c : Nat) (ho : pre.length = o) (i : Nat) (hi : i < 7) (h' : Hd)
    (o1 : Owns w1 h' (rowsOf d' i)) (hg : w.grownBy w1 (H i).blk)
    (hf : h'.blk = none ∨ h'.blk = (H i).blk ∨ ∃ g, h'.blk = some g ∧ w.heap.size ≤ g) (hrow : ∀ j, j < 7 → j ≠ i → rowsOf d' j = rowsOf d j)
    (u : Value) (hc : c < 9) (hl : (dbList d H).set c u = dbList d' (upd H i h')) :
    DbIs (w1.setCell ⟨b, o + c, none⟩ u) b t pre post d' (upd H i h') ∧ Turned b w H (w1.setCell ⟨b, o + c, none⟩ u) (upd H i h') := by
  have hb := h.lt
  have hb1 : w1.heap[b]? = some (.cells (pre ++ (dbList d H ++ post)).toArray t (0, 0)) := (hg.block b hb (fun e => h.off i hi e.symm)).trans h.blk
  have hoff : ∀ j, j < 7 → (upd H i h' j).blk ≠ some b := by
    intro j hj
    by_cases e : j = i
    · subst e; rw [upd_same]; intro hx
      rcases hf with hf | hf | ⟨g, hf, hg'⟩
      · rw [hf] at hx; cases hx
      · exact h.off j hj (hf ▸ hx)
      · rw [hf] at hx; cases hx; omega
    · rw [upd_other _ _ _ _ e]; exact h.off j hj
  refine ⟨⟨?_, ?_, ?_, hoff⟩, ⟨hg.os, hg.tape, hg.output, by have := hg.size; simp [World.setCell]; omega, ?_⟩, ?_⟩
  · rw [block_setCell hb1, List.setIfInBounds_toArray, mid_set pre (dbList d H) post o c u ho hc, hl]
  · intro j hj
    have q : Owns w1 (upd H i h' j) (rowsOf d' j) := by
      by_cases e : j = i
      · subst e; rw [upd_same]; exact o1
      · rw [upd_other _ _ _ _ e, hrow j hj e]
        refine (h.own j hj).moved (fun k hk => hg.block k ((h.own j hj).lt hk) ?_)
        intro ek
        rcases h.apart j i hj hi e with a | a
        · rw [a] at hk; cases hk
        · exact a (hk.trans ek)
    refine q.moved (fun k hk => Below.heap_setCell _ _ _ _ ?_)
    rintro rfl
    exact hoff j hj hk
  · intro j l hj hl' hne
    by_cases e : j = i
    · subst e
      rw [upd_same, upd_other _ _ _ _ (fun e => hne e.symm)]
      rcases hf with hf | hf | ⟨g, hf, hg'⟩
      · exact Or.inl hf
      · rw [hf]; exact h.apart j l hj hl' hne
      · right; rw [hf]; intro ek; have := (h.own l hl').lt ek.symm; omega
    · rw [upd_other _ _ _ _ e]
      by_cases e2 : l = i
      · subst e2
        rw [upd_same]
        rcases hf with hf | hf | ⟨g, hf, hg'⟩
        · rw [hf]; cases (H j).blk <;> simp
        · rw [hf]; exact h.apart j l hj hl' hne
        · cases hx : (H j).blk with
          | none => exact Or.inl rfl
          | some k => right; rw [hf]; intro ek; cases ek; have := (h.own j hj).lt hx; omega
      · rw [upd_other _ _ _ _ e2]; exact h.apart j l hj hl' hne
  · intro k hk hn
    rw [Below.heap_setCell _ _ _ _ (fun e => hn (List.mem_cons.2 (Or.inl e)))]
    exact hg.block k hk (fun e => hn (List.mem_cons.2 (Or.inr (mem_blks.2 ⟨i, hi, e.symm⟩))))
  · intro k hk
    obtain ⟨j, hj, e⟩ := mem_blks.1 hk
    by_cases ei : j = i
    · subst ei
      rw [upd_same] at e
      rcases hf with hf | hf | ⟨g, hf, hg'⟩
      · rw [hf] at e; cases e
      · exact Or.inl (mem_blks.2 ⟨j, hj, hf ▸ e⟩)
      · rw [hf] at e; cases e; exact Or.inr hg'
    · rw [upd_other _ _ _ _ ei] at e
      exact Or.inl (mem_blks.2 ⟨j, hj, e⟩)

/-- A plain field has been put into its cell. -/
theorem DbIs.set {w : World} {b t : Nat} {pre post : List Value} {d d' : Db} {H : Nat → Hd} (h : DbIs w b t pre post d H) (o c : Nat) (ho : pre.length = o)
    (hrow : ∀ j, j < 7 → rowsOf d' j = rowsOf d j) (u : Value) (hc : c < 9) (hl : (dbList d H).set c u = dbList d' H) :
    DbIs (w.setCell ⟨b, o + c, none⟩ u) b t pre post d' H ∧ Turned b w H (w.setCell ⟨b, o + c, none⟩ u) H := by
  refine ⟨⟨?_, ?_, h.apart, h.off⟩, (Kept.refl _ _).setCell (Or.inl (by simp)) _, fun _ hk => Or.inl hk⟩
  · rw [block_setCell h.blk, List.setIfInBounds_toArray, mid_set pre (dbList d H) post o c u ho hc, hl]
  · intro j hj
    rw [hrow j hj]
    refine (h.own j hj).moved (fun k hk => Below.heap_setCell _ _ _ _ ?_)
    rintro rfl
    exact h.off j hj hk

end Go.Proofs.Ytkblmflajfomaaa
