/- Our texts: Db1, Db2, Db3, Db4. -/
import Derived.Deep.RegionLaw
import Derived.Test.YtcipkfhpcbddiaaGreatG03
/- Package statements: what the words so far have declared, as a value, and in memory. -/
namespace Go.Proofs.YtcipkfhpcbddiaaGreat
open Go.RowKit

/-- A place; a word of a proof; a statement that was recorded. -/
structure Pl where
  file : ByteArray
  line : Int
  col : Int
structure St where
  kind : Int
  label : ByteArray
  symbols : List ByteArray
  proof : List (ByteArray × Pl)
  fin : Pl
  til : Nat
structure Db where
  labels : List ByteArray
  constants : List ByteArray
  variables : List ByteArray
  active : List ByteArray
  typed : List ByteArray
  blocks : List (Nat × Nat)
  sts : List St
  rbl : List Nat
  kind : Int
  label : ByteArray
  symbols : List ByteArray
  inProof : Bool
  proof : List (ByteArray × Pl)

def strs (l : List ByteArray) : List Value := l.map Value.string
def pairs (l : List (Nat × Nat)) : List Value := l.flatMap (fun p => [.int .i64 p.1, .int .i64 p.2])
def nums (l : List Nat) : List Value := l.map (fun (n : Nat) => .int .i64 n)
def wordV (p : ByteArray × Pl) : List Value := [.string p.1, .string p.2.file, .int .i64 p.2.line, .int .i64 p.2.col]
def wordsV (l : List (ByteArray × Pl)) : List Value := l.flatMap wordV
def stV (s : St) (a b : Hd) : List Value :=
  [.int .i64 s.kind, .string s.label, .slice a.ao s.symbols.length a.cap, .slice b.ao s.proof.length b.cap, .string s.fin.file, .int .i64 s.fin.line, .int .i64 s.fin.col, .int .i64 s.til]
def stsV (l : List St) (H : Nat → Hd) : List Value := l.zipIdx.flatMap (fun p => stV p.1 (H (10 + 2 * p.2)) (H (11 + 2 * p.2)))
def rowS (l : List ByteArray) : Row := ⟨9, 1, l.length, strs l⟩
def rowB (l : List (Nat × Nat)) : Row := ⟨188, 2, l.length, pairs l⟩
def rowN (l : List Nat) : Row := ⟨3, 1, l.length, nums l⟩
def rowW (l : List (ByteArray × Pl)) : Row := ⟨157, 4, l.length, wordsV l⟩
def rowT (l : List St) (H : Nat → Hd) : Row := ⟨119, 8, l.length, stsV l H⟩
def symsAt (l : List St) (i : Nat) : List ByteArray := match l[i]? with | some s => s.symbols | none => []
def prfAt (l : List St) (i : Nat) : List (ByteArray × Pl) := match l[i]? with | some s => s.proof | none => []
def inner (l : List St) (n : Nat) : Row := if n % 2 = 0 then rowS (symsAt l (n / 2)) else rowW (prfAt l (n / 2))
def rowsOf (d : Db) (H : Nat → Hd) : Nat → Row
  | 0 => rowS d.labels
  | 1 => rowS d.constants
  | 2 => rowS d.variables
  | 3 => rowS d.active
  | 4 => rowS d.typed
  | 5 => rowB d.blocks
  | 6 => rowT d.sts H
  | 7 => rowN d.rbl
  | 8 => rowS d.symbols
  | 9 => rowW d.proof
  | n + 10 => inner d.sts n

def dbList (d : Db) (H : Nat → Hd) : List Value :=
  [.slice (H 0).ao d.labels.length (H 0).cap, .slice (H 1).ao d.constants.length (H 1).cap, .slice (H 2).ao d.variables.length (H 2).cap, .slice (H 3).ao d.active.length (H 3).cap,
   .slice (H 4).ao d.typed.length (H 4).cap, .slice (H 5).ao d.blocks.length (H 5).cap, .slice (H 6).ao d.sts.length (H 6).cap, .slice (H 7).ao d.rbl.length (H 7).cap,
   .int .i64 d.kind, .string d.label, .slice (H 8).ao d.symbols.length (H 8).cap, .bool d.inProof, .slice (H 9).ao d.proof.length (H 9).cap]

def upd {α : Type} (H : Nat → α) (i : Nat) (h : α) : Nat → α := fun j => if j = i then h else H j
theorem upd_same {α : Type} (H : Nat → α) (i : Nat) (h : α) : upd H i h i = h := by simp [upd]
theorem upd_other {α : Type} (H : Nat → α) (i j : Nat) (h : α) (hj : j ≠ i) : upd H i h j = H j := by simp [upd, hj]
theorem upd_self {α : Type} (H : Nat → α) (i : Nat) : upd H i (H i) = H := by funext j; unfold upd; split <;> simp_all

theorem stsV_congr (l : List St) (H H' : Nat → Hd) (h : ∀ j, 10 ≤ j → H' j = H j) : stsV l H' = stsV l H := by
  unfold stsV; congr 1; funext p; rw [h _ (by omega), h _ (by omega)]
theorem rows_upd (d : Db) (H : Nat → Hd) (i : Nat) (h : Hd) (hi : i < 10) (j : Nat) : rowsOf d (upd H i h) j = rowsOf d H j := by
  have e : stsV d.sts (upd H i h) = stsV d.sts H := stsV_congr _ _ _ (fun j hj => upd_other _ _ _ _ (by omega))
  unfold rowsOf
  split <;> first | rfl | (simp only [rowT, e])

/-- Which blocks the arrays lie in. -/
def InH (H : Nat → Hd) (k : Nat) : Prop := ∃ i, (H i).blk = some k
/-- What is in no block of P, and was there, is as it was. -/
structure KeptP (P : Nat → Prop) (w w' : World) : Prop where
  os : w'.os = w.os
  tape : w'.tape = w.tape
  output : w'.output = w.output
  size : w.heap.size ≤ w'.heap.size
  block : ∀ k, k < w.heap.size → ¬ P k → w'.heap[k]? = w.heap[k]?
theorem KeptP.refl (P : Nat → Prop) (w : World) : KeptP P w w := ⟨rfl, rfl, rfl, Nat.le_refl _, fun _ _ _ => rfl⟩
theorem Kept.toP {S : List Nat} {w w' : World} (h : Kept S w w') {P : Nat → Prop} (hP : ∀ k, k ∈ S → k < w.heap.size → P k) : KeptP P w w' :=
  ⟨h.os, h.tape, h.output, h.size, fun k hk hn => h.block k hk (fun hm => hn (hP k hm hk))⟩
theorem KeptP.get {P : Nat → Prop} {w w' : World} (h : KeptP P w w') {k : Nat} {o : Obj} (ho : w.heap[k]? = some o) (hk : ¬ P k) : w'.heap[k]? = some o := (h.block k (lt_of_get ho) hk).trans ho
theorem KeptP.still {P : Nat → Prop} {a b c : World} (h : KeptP P a b) (k : Kept [] b c) : KeptP P a c :=
  ⟨k.os.trans h.os, k.tape.trans h.tape, k.output.trans h.output, Nat.le_trans h.size k.size, fun i hi hn => (k.block i (Nat.lt_of_lt_of_le hi h.size) (by simp)).trans (h.block i hi hn)⟩
theorem KeptP.setCell {P : Nat → Prop} {a w : World} (h : KeptP P a w) {p : Addr} (hp : P p.block ∨ a.heap.size ≤ p.block) (u : Value) : KeptP P a (w.setCell p u) :=
  ⟨h.os, h.tape, h.output, by have := h.size; simp [World.setCell]; omega, fun k hk hs => by
    rw [Below.heap_setCell _ _ _ _ (by rintro rfl; exact hp.elim hs (fun hp => by omega))]; exact h.block k hk hs⟩

/-- The database at the cells from pre.length on of block b (of type t): its slices in arrays of their own. -/
structure DbIs (w : World) (b t : Nat) (pre post : List Value) (d : Db) (H : Nat → Hd) : Prop where
  blk : w.heap[b]? = some (.cells (pre ++ (dbList d H ++ post)).toArray t (0, 0))
  own : ∀ i, Owns w (H i) (rowsOf d H i)
  apart : ∀ i j, i ≠ j → (H i).blk = none ∨ (H i).blk ≠ (H j).blk
  off : ∀ i, (H i).blk ≠ some b

theorem DbIs.lt {w : World} {b t : Nat} {pre post : List Value} {d : Db} {H : Nat → Hd} (h : DbIs w b t pre post d H) : b < w.heap.size := lt_of_get h.blk
theorem DbIs.free {w : World} {b t : Nat} {pre post : List Value} {d : Db} {H : Nat → Hd} (h : DbIs w b t pre post d H) (i : Nat) : w.frozen? ⟨b, i, none⟩ = false := free_of h.blk i
theorem DbIs.inlt {w : World} {b t : Nat} {pre post : List Value} {d : Db} {H : Nat → Hd} (h : DbIs w b t pre post d H) {k : Nat} (hk : InH H k) : k < w.heap.size := by
  obtain ⟨i, hi⟩ := hk; exact (h.own i).lt hi

theorem DbIs.keptP {w w' : World} {b t : Nat} {pre post : List Value} {d : Db} {H : Nat → Hd} {P : Nat → Prop} (h : DbIs w b t pre post d H) (hk : KeptP P w w') (hb : ¬ P b) (hs : ∀ k, InH H k → ¬ P k) : DbIs w' b t pre post d H :=
  ⟨hk.get h.blk hb, fun i => (h.own i).moved (fun k hk' => hk.block k ((h.own i).lt hk') (hs k ⟨i, hk'⟩)), h.apart, h.off⟩
theorem DbIs.kept {w w' : World} {b t : Nat} {pre post : List Value} {d : Db} {H : Nat → Hd} {S : List Nat} (h : DbIs w b t pre post d H) (hk : Kept S w w') (hb : b ∉ S) (hs : ∀ k, InH H k → k ∉ S) : DbIs w' b t pre post d H :=
  h.keptP (hk.toP (P := (· ∈ S)) (fun _ hm _ => hm)) hb hs
theorem DbIs.still {w w' : World} {b t : Nat} {pre post : List Value} {d : Db} {H : Nat → Hd} (h : DbIs w b t pre post d H) (hk : Kept [] w w') : DbIs w' b t pre post d H := h.kept hk (by simp) (by simp)

theorem mid_get (pre l post : List Value) (o i : Nat) (ho : pre.length = o) (hi : i < l.length) : (pre ++ (l ++ post)).toArray[o + i]? = l[i]? := by
  subst ho
  simp [List.getElem?_append_right, List.getElem?_append_left hi]
theorem mid_set (pre l post : List Value) (o i : Nat) (u : Value) (ho : pre.length = o) (hi : i < l.length) : (pre ++ (l ++ post)).set (o + i) u = pre ++ (l.set i u ++ post) := by
  subst ho
  rw [List.set_append_right _ _ (by omega), show pre.length + i - pre.length = i by omega, List.set_append_left _ _ hi]

theorem DbIs.cellAt {w : World} {b t : Nat} {pre post : List Value} {d : Db} {H : Nat → Hd} (h : DbIs w b t pre post d H) (o : Nat) (ho : pre.length = o) (i : Nat) (hi : i < 13) : w.cell? ⟨b, o + i, none⟩ = (dbList d H)[i]? :=
  (cell_of h.blk (o + i)).trans (mid_get pre (dbList d H) post o i ho hi)

theorem DbIs.cells {w : World} {b t : Nat} {pre post : List Value} {d : Db} {H : Nat → Hd} (h : DbIs w b t pre post d H) (o : Nat) (ho : pre.length = o) :
    w.cell? ⟨b, o, none⟩ = some (.slice (H 0).ao d.labels.length (H 0).cap) ∧ w.cell? ⟨b, o + 1, none⟩ = some (.slice (H 1).ao d.constants.length (H 1).cap) ∧
    w.cell? ⟨b, o + 2, none⟩ = some (.slice (H 2).ao d.variables.length (H 2).cap) ∧ w.cell? ⟨b, o + 3, none⟩ = some (.slice (H 3).ao d.active.length (H 3).cap) ∧
    w.cell? ⟨b, o + 4, none⟩ = some (.slice (H 4).ao d.typed.length (H 4).cap) ∧ w.cell? ⟨b, o + 5, none⟩ = some (.slice (H 5).ao d.blocks.length (H 5).cap) ∧
    w.cell? ⟨b, o + 6, none⟩ = some (.slice (H 6).ao d.sts.length (H 6).cap) ∧ w.cell? ⟨b, o + 7, none⟩ = some (.slice (H 7).ao d.rbl.length (H 7).cap) ∧
    w.cell? ⟨b, o + 8, none⟩ = some (.int .i64 d.kind) ∧ w.cell? ⟨b, o + 9, none⟩ = some (.string d.label) ∧ w.cell? ⟨b, o + 10, none⟩ = some (.slice (H 8).ao d.symbols.length (H 8).cap) ∧
    w.cell? ⟨b, o + 11, none⟩ = some (.bool d.inProof) ∧ w.cell? ⟨b, o + 12, none⟩ = some (.slice (H 9).ao d.proof.length (H 9).cap) := by
  have m := h.cellAt o ho
  exact ⟨m 0 (by omega), m 1 (by omega), m 2 (by omega), m 3 (by omega), m 4 (by omega), m 5 (by omega), m 6 (by omega), m 7 (by omega), m 8 (by omega), m 9 (by omega), m 10 (by omega), m 11 (by omega), m 12 (by omega)⟩

/-- What a step of the database may turn: its block, its arrays; new arrays are new blocks. -/
def Turned (b : Nat) (w : World) (H : Nat → Hd) (w' : World) (H' : Nat → Hd) : Prop :=
  KeptP (fun k => k = b ∨ InH H k) w w' ∧ ∀ k, InH H' k → InH H k ∨ w.heap.size ≤ k
theorem Turned.refl (b : Nat) (w : World) (H : Nat → Hd) : Turned b w H w H := ⟨KeptP.refl _ _, fun _ hk => Or.inl hk⟩
theorem Turned.trans {b : Nat} {w0 w1 w2 : World} {H0 H1 H2 : Nat → Hd} (a : Turned b w0 H0 w1 H1) (c : Turned b w1 H1 w2 H2) : Turned b w0 H0 w2 H2 := by
  refine ⟨⟨c.1.os.trans a.1.os, c.1.tape.trans a.1.tape, c.1.output.trans a.1.output, Nat.le_trans a.1.size c.1.size, ?_⟩, ?_⟩
  · intro k hk hn
    rw [← a.1.block k hk hn]
    refine c.1.block k (Nat.lt_of_lt_of_le hk a.1.size) ?_
    rintro (e | hm)
    · exact hn (Or.inl e)
    · rcases a.2 k hm with h | h
      · exact hn (Or.inr h)
      · omega
  · intro k hk
    rcases c.2 k hk with h | h
    · exact a.2 k h
    · exact Or.inr (Nat.le_trans a.1.size h)
theorem Turned.still {b : Nat} {w0 w1 w2 : World} {H0 H1 : Nat → Hd} (a : Turned b w0 H0 w1 H1) (c : Kept [] w1 w2) : Turned b w0 H0 w2 H1 :=
  a.trans ⟨c.toP (by simp), fun _ hk => Or.inl hk⟩
theorem Turned.first {b : Nat} {w0 w1 w2 : World} {H0 H1 : Nat → Hd} (c : Kept [] w0 w1) (a : Turned b w1 H0 w2 H1) : Turned b w0 H0 w2 H1 :=
  Turned.trans ⟨c.toP (by simp), fun _ hk => Or.inl hk⟩ a

/-- A slice has been put into its cell: appended to, cut, or made nil. -/
theorem DbIs.putG {w w1 : World} {b t : Nat} {pre post : List Value} {d d' : Db} {H : Nat → Hd} (h : DbIs w b t pre post d H) (o c : Nat) (ho : pre.length = o) (i : Nat) (hi : i < 10) (h' : Hd)
    (o1 : Owns w1 h' (rowsOf d' H i)) (hg : w.grownBy w1 (H i).blk)
    (hf : h'.blk = none ∨ h'.blk = (H i).blk ∨ ∃ g, h'.blk = some g ∧ w.heap.size ≤ g) (hrow : ∀ j, j ≠ i → Owns w (H j) (rowsOf d' H j))
    (u : Value) (hc : c < 13) (hl : (dbList d H).set c u = dbList d' (upd H i h')) :
    DbIs (w1.setCell ⟨b, o + c, none⟩ u) b t pre post d' (upd H i h') ∧ Turned b w H (w1.setCell ⟨b, o + c, none⟩ u) (upd H i h') := by
  have hb := h.lt
  have hb1 : w1.heap[b]? = some (.cells (pre ++ (dbList d H ++ post)).toArray t (0, 0)) := (hg.block b hb (fun e => h.off i e.symm)).trans h.blk
  have hoff : ∀ j, (upd H i h' j).blk ≠ some b := by
    intro j
    by_cases e : j = i
    · subst e; rw [upd_same]; intro hx
      rcases hf with hf | hf | ⟨g, hf, hg'⟩
      · rw [hf] at hx; cases hx
      · exact h.off j (hf ▸ hx)
      · rw [hf] at hx; cases hx; omega
    · rw [upd_other _ _ _ _ e]; exact h.off j
  refine ⟨⟨?_, ?_, ?_, hoff⟩, ⟨hg.os, hg.tape, hg.output, by have := hg.size; simp [World.setCell]; omega, ?_⟩, ?_⟩
  · rw [block_setCell hb1, List.setIfInBounds_toArray, mid_set pre (dbList d H) post o c u ho hc, hl]
  · intro j
    have q : Owns w1 (upd H i h' j) (rowsOf d' (upd H i h') j) := by
      rw [rows_upd d' H i h' hi j]
      by_cases e : j = i
      · subst e; rw [upd_same]; exact o1
      · rw [upd_other _ _ _ _ e]
        refine (hrow j e).moved (fun k hk => hg.block k ((h.own j).lt hk) ?_)
        intro ek
        rcases h.apart j i e with a | a
        · rw [a] at hk; cases hk
        · exact a (hk.trans ek)
    refine q.moved (fun k hk => Below.heap_setCell _ _ _ _ ?_)
    rintro rfl
    exact hoff j hk
  · intro j l hne
    by_cases e : j = i
    · subst e
      rw [upd_same, upd_other _ _ _ _ (fun e => hne e.symm)]
      rcases hf with hf | hf | ⟨g, hf, hg'⟩
      · exact Or.inl hf
      · rw [hf]; exact h.apart j l hne
      · right; rw [hf]; intro ek; have := (h.own l).lt ek.symm; omega
    · rw [upd_other _ _ _ _ e]
      by_cases e2 : l = i
      · subst e2
        rw [upd_same]
        rcases hf with hf | hf | ⟨g, hf, hg'⟩
        · rw [hf]; cases (H j).blk <;> simp
        · rw [hf]; exact h.apart j l hne
        · cases hx : (H j).blk with
          | none => exact Or.inl rfl
          | some k => right; rw [hf]; intro ek; cases ek; have := (h.own j).lt hx; omega
      · rw [upd_other _ _ _ _ e2]; exact h.apart j l hne
  · intro k hk hn
    rw [Below.heap_setCell _ _ _ _ (fun e => hn (Or.inl e))]
    exact hg.block k hk (fun e => hn (Or.inr ⟨i, e.symm⟩))
  · intro k hk
    obtain ⟨j, e⟩ := hk
    by_cases ei : j = i
    · subst ei
      rw [upd_same] at e
      rcases hf with hf | hf | ⟨g, hf, hg'⟩
      · rw [hf] at e; cases e
      · exact Or.inl ⟨j, hf ▸ e⟩
      · rw [hf] at e; cases e; exact Or.inr hg'
    · rw [upd_other _ _ _ _ ei] at e
      exact Or.inl ⟨j, e⟩

theorem DbIs.put {w w1 : World} {b t : Nat} {pre post : List Value} {d d' : Db} {H : Nat → Hd} (h : DbIs w b t pre post d H) (o c : Nat) (ho : pre.length = o) (i : Nat) (hi : i < 10) (h' : Hd)
    (o1 : Owns w1 h' (rowsOf d' H i)) (hg : w.grownBy w1 (H i).blk)
    (hf : h'.blk = none ∨ h'.blk = (H i).blk ∨ ∃ g, h'.blk = some g ∧ w.heap.size ≤ g) (hrow : ∀ j, j ≠ i → rowsOf d' H j = rowsOf d H j)
    (u : Value) (hc : c < 13) (hl : (dbList d H).set c u = dbList d' (upd H i h')) :
    DbIs (w1.setCell ⟨b, o + c, none⟩ u) b t pre post d' (upd H i h') ∧ Turned b w H (w1.setCell ⟨b, o + c, none⟩ u) (upd H i h') :=
  h.putG o c ho i hi h' o1 hg hf (fun j hj => by rw [hrow j hj]; exact h.own j) u hc hl

/-- A plain field has been put into its cell. -/
theorem DbIs.set {w : World} {b t : Nat} {pre post : List Value} {d d' : Db} {H : Nat → Hd} (h : DbIs w b t pre post d H) (o c : Nat) (ho : pre.length = o)
    (hrow : ∀ j, rowsOf d' H j = rowsOf d H j) (u : Value) (hc : c < 13) (hl : (dbList d H).set c u = dbList d' H) :
    DbIs (w.setCell ⟨b, o + c, none⟩ u) b t pre post d' H ∧ Turned b w H (w.setCell ⟨b, o + c, none⟩ u) H := by
  refine ⟨⟨?_, ?_, h.apart, h.off⟩, (KeptP.refl _ _).setCell (Or.inl (Or.inl rfl)) _, fun _ hk => Or.inl hk⟩
  · rw [block_setCell h.blk, List.setIfInBounds_toArray, mid_set pre (dbList d H) post o c u ho hc, hl]
  · intro j
    rw [hrow j]
    refine (h.own j).moved (fun k hk => Below.heap_setCell _ _ _ _ ?_)
    rintro rfl
    exact h.off j hk

/-- Behind an append to the slice of slot i: its cell as it still is, and what the store of the new slice leaves. -/
theorem DbIs.app {w w1 : World} {b t : Nat} {pre post : List Value} {d d' : Db} {H : Nat → Hd} (h : DbIs w b t pre post d H) (o c : Nat) (ho : pre.length = o) (i : Nat) (hi : i < 10) (g cap' m : Nat) (r : Row)
    (hw1 : Owns w1 ⟨some ⟨g, 0, none⟩, cap'⟩ r) (hr : r = rowsOf d' H i) (hgr : w.grownBy w1 (H i).blk) (hfresh : (H i).blk = some g ∨ w.heap.size ≤ g)
    (hrow : ∀ j, j ≠ i → rowsOf d' H j = rowsOf d H j) (hc : c < 13) (v0 : Value) (hv : (dbList d H)[c]? = some v0)
    (hl : (dbList d H).set c (.slice (some ⟨g, 0, none⟩) m cap') = dbList d' (upd H i ⟨some ⟨g, 0, none⟩, cap'⟩)) :
    w1.cell? ⟨b, o + c, none⟩ = some v0 ∧ w1.frozen? ⟨b, o + c, none⟩ = false ∧
    Hid (DbIs (w1.setCell ⟨b, o + c, none⟩ (.slice (some ⟨g, 0, none⟩) m cap')) b t pre post d' (upd H i ⟨some ⟨g, 0, none⟩, cap'⟩) ∧
      Turned b w H (w1.setCell ⟨b, o + c, none⟩ (.slice (some ⟨g, 0, none⟩) m cap')) (upd H i ⟨some ⟨g, 0, none⟩, cap'⟩)) := by
  have hk := (hgr.block b h.lt (fun e => h.off i e.symm)).trans h.blk
  subst hr
  refine ⟨((cell_of hk (o + c)).trans (mid_get pre (dbList d H) post o c ho hc)).trans hv, free_of hk _, ?_⟩
  exact h.put (d' := d') o c ho i hi ⟨some ⟨g, 0, none⟩, cap'⟩ hw1 hgr
    (by rcases hfresh with e | e
        · exact Or.inr (Or.inl e.symm)
        · exact Or.inr (Or.inr ⟨g, rfl, by simpa using e⟩)) hrow _ hc hl

theorem rows_labels (d : Db) (H : Nat → Hd) (l : List ByteArray) : ∀ j, j ≠ 0 → rowsOf { d with labels := l } H j = rowsOf d H j := by
  intro j hne
  match j with
  | 0 => exact absurd rfl hne
  | 1 => rfl
  | 2 => rfl
  | 3 => rfl
  | 4 => rfl
  | 5 => rfl
  | 6 => rfl
  | 7 => rfl
  | 8 => rfl
  | 9 => rfl
  | n + 10 => rfl
theorem rows_constants (d : Db) (H : Nat → Hd) (l : List ByteArray) : ∀ j, j ≠ 1 → rowsOf { d with constants := l } H j = rowsOf d H j := by
  intro j hne
  match j with
  | 0 => rfl
  | 1 => exact absurd rfl hne
  | 2 => rfl
  | 3 => rfl
  | 4 => rfl
  | 5 => rfl
  | 6 => rfl
  | 7 => rfl
  | 8 => rfl
  | 9 => rfl
  | n + 10 => rfl
theorem rows_variables (d : Db) (H : Nat → Hd) (l : List ByteArray) : ∀ j, j ≠ 2 → rowsOf { d with variables := l } H j = rowsOf d H j := by
  intro j hne
  match j with
  | 0 => rfl
  | 1 => rfl
  | 2 => exact absurd rfl hne
  | 3 => rfl
  | 4 => rfl
  | 5 => rfl
  | 6 => rfl
  | 7 => rfl
  | 8 => rfl
  | 9 => rfl
  | n + 10 => rfl
theorem rows_active (d : Db) (H : Nat → Hd) (l : List ByteArray) : ∀ j, j ≠ 3 → rowsOf { d with active := l } H j = rowsOf d H j := by
  intro j hne
  match j with
  | 0 => rfl
  | 1 => rfl
  | 2 => rfl
  | 3 => exact absurd rfl hne
  | 4 => rfl
  | 5 => rfl
  | 6 => rfl
  | 7 => rfl
  | 8 => rfl
  | 9 => rfl
  | n + 10 => rfl
theorem rows_typed (d : Db) (H : Nat → Hd) (l : List ByteArray) : ∀ j, j ≠ 4 → rowsOf { d with typed := l } H j = rowsOf d H j := by
  intro j hne
  match j with
  | 0 => rfl
  | 1 => rfl
  | 2 => rfl
  | 3 => rfl
  | 4 => exact absurd rfl hne
  | 5 => rfl
  | 6 => rfl
  | 7 => rfl
  | 8 => rfl
  | 9 => rfl
  | n + 10 => rfl
theorem rows_blocks (d : Db) (H : Nat → Hd) (l : List (Nat × Nat)) : ∀ j, j ≠ 5 → rowsOf { d with blocks := l } H j = rowsOf d H j := by
  intro j hne
  match j with
  | 0 => rfl
  | 1 => rfl
  | 2 => rfl
  | 3 => rfl
  | 4 => rfl
  | 5 => exact absurd rfl hne
  | 6 => rfl
  | 7 => rfl
  | 8 => rfl
  | 9 => rfl
  | n + 10 => rfl
theorem rows_rbl (d : Db) (H : Nat → Hd) (l : List Nat) : ∀ j, j ≠ 7 → rowsOf { d with rbl := l } H j = rowsOf d H j := by
  intro j hne
  match j with
  | 0 => rfl
  | 1 => rfl
  | 2 => rfl
  | 3 => rfl
  | 4 => rfl
  | 5 => rfl
  | 6 => rfl
  | 7 => exact absurd rfl hne
  | 8 => rfl
  | 9 => rfl
  | n + 10 => rfl
theorem rows_symbols (d : Db) (H : Nat → Hd) (l : List ByteArray) : ∀ j, j ≠ 8 → rowsOf { d with symbols := l } H j = rowsOf d H j := by
  intro j hne
  match j with
  | 0 => rfl
  | 1 => rfl
  | 2 => rfl
  | 3 => rfl
  | 4 => rfl
  | 5 => rfl
  | 6 => rfl
  | 7 => rfl
  | 8 => exact absurd rfl hne
  | 9 => rfl
  | n + 10 => rfl
theorem rows_proof (d : Db) (H : Nat → Hd) (l : List (ByteArray × Pl)) : ∀ j, j ≠ 9 → rowsOf { d with proof := l } H j = rowsOf d H j := by
  intro j hne
  match j with
  | 0 => rfl
  | 1 => rfl
  | 2 => rfl
  | 3 => rfl
  | 4 => rfl
  | 5 => rfl
  | 6 => rfl
  | 7 => rfl
  | 8 => rfl
  | 9 => exact absurd rfl hne
  | n + 10 => rfl
theorem rows_kind (d : Db) (H : Nat → Hd) (l : Int) : ∀ j, rowsOf { d with kind := l } H j = rowsOf d H j := by
  intro j
  match j with
  | 0 => rfl
  | 1 => rfl
  | 2 => rfl
  | 3 => rfl
  | 4 => rfl
  | 5 => rfl
  | 6 => rfl
  | 7 => rfl
  | 8 => rfl
  | 9 => rfl
  | n + 10 => rfl
theorem rows_label (d : Db) (H : Nat → Hd) (l : ByteArray) : ∀ j, rowsOf { d with label := l } H j = rowsOf d H j := by
  intro j
  match j with
  | 0 => rfl
  | 1 => rfl
  | 2 => rfl
  | 3 => rfl
  | 4 => rfl
  | 5 => rfl
  | 6 => rfl
  | 7 => rfl
  | 8 => rfl
  | 9 => rfl
  | n + 10 => rfl
theorem rows_inProof (d : Db) (H : Nat → Hd) (l : Bool) : ∀ j, rowsOf { d with inProof := l } H j = rowsOf d H j := by
  intro j
  match j with
  | 0 => rfl
  | 1 => rfl
  | 2 => rfl
  | 3 => rfl
  | 4 => rfl
  | 5 => rfl
  | 6 => rfl
  | 7 => rfl
  | 8 => rfl
  | 9 => rfl
  | n + 10 => rfl

end Go.Proofs.YtcipkfhpcbddiaaGreat

/- Package statements: the looks into a list; the lists that grow. -/
namespace Go.Proofs.YtcipkfhpcbddiaaGreat
open Go.RowKit

def hasF (l : List ByteArray) (x : ByteArray) : Bool := l.any (fun y => y.toList == x.toList)

theorem has_hit (l : List ByteArray) (x : ByteArray) (k : Nat) (h : k < l.length) (he : hasF l x = hasF (l.drop k) x) (hb : ((l[k]).toList == x.toList) = true) : hasF l x = true := by
  rw [he, List.drop_eq_getElem_cons h]; simp only [hasF, List.any_cons, hb, Bool.true_or]
theorem has_miss (l : List ByteArray) (x : ByteArray) (k : Nat) (h : k < l.length) (he : hasF l x = hasF (l.drop k) x) (hb : ((l[k]).toList == x.toList) = false) : hasF l x = hasF (l.drop (k + 1)) x := by
  rw [he, List.drop_eq_getElem_cons h]; simp only [hasF, List.any_cons, hb, Bool.false_or]
theorem has_over (l : List ByteArray) (x : ByteArray) (k : Nat) (h : ¬ k < l.length) (he : hasF l x = hasF (l.drop k) x) : hasF l x = false := by
  rw [he, List.drop_of_length_le (by omega)]; rfl

theorem strs_at (l : List ByteArray) (k : Nat) (h : k < l.length) : (strs l)[k]? = some (.string l[k]) := by simp [strs, h]

set_option maxHeartbeats 400000 in
theorem has_any (hd : Hd) (l : List ByteArray) (x : ByteArray) (w : World) (ho : Owns w hd (rowS l)) (hl : l.length ≤ 1073741824) :
    Calls Tryz.prog 116 #[.slice hd.ao l.length hd.cap, .string x] w fun e w' => e = .returned (.bool (hasF l x)) ∧ w' = w := by
  obtain ⟨ao, cap⟩ := hd
  rcases ho.ways with ⟨e0, h0, _⟩ | ⟨g, cur, e1, _⟩
  · have h0' : l.length = 0 := h0
    have hl0 : l = [] := List.eq_nil_of_length_eq_zero h0'
    subst hl0
    injection e0 with e0 e2
    subst e0
    clear ho h0 h0' hl e2
    go_enter Tryz.func116, Tryz.ntmps116
    go_wp2
    refine wp_loop_rounds 1 ?_
    rw [rounds_succ]
    go_wp2
    go_ret
    exact ⟨rfl, rfl⟩
  · simp only at e1
    subst e1
    go_enter Tryz.func116, Tryz.ntmps116
    go_wp2
    go_loopg [5] l.length (fun g i wr => ∃ k : Nat, k ≤ l.length ∧ g = l.length - k ∧ i = .int .i64 k ∧ Hid (hasF l x = hasF (l.drop k) x) ∧ wr = w)
    case atStart => exact ⟨0, by omega, by omega, rfl, rfl, rfl⟩
    case round =>
      obtain ⟨k, hk, hg, rfl, hs, rfl⟩ := hrel
      by_cases hlt : k < l.length
      · have c1 := ho.cell rfl k (.string l[k]) (strs_at l k hlt)
        cases hb : ((l[k]).toList == x.toList)
        · have HM : Hid (hasF l x = hasF (l.drop (k + 1)) x) := has_miss l x k hlt hs.out hb
          clear hs ho
          go_wp2
          go_roundg (l.length - (k + 1))
          case measure => omega
          case rel => exact ⟨k + 1, by omega, rfl, by go_num, HM, rfl⟩
        · have HM : Hid (hasF l x = true) := has_hit l x k hlt hs.out hb
          clear hs ho
          go_wp2
          go_ret
          exact ⟨ret_bool HM.out.symm, rfl⟩
      · have HM : Hid (hasF l x = false) := has_over l x k hlt hs.out
        clear hs ho
        go_wp2
        go_ret
        exact ⟨ret_bool HM.out.symm, rfl⟩

theorem infoS : (Tryz.prog.info? 9).map (fun i => (i.zero, i.size, i.bytes)) = some (some (.string ⟨#[]⟩), 1, 16) := by kernel_rfl
theorem strs_snoc (l : List ByteArray) (x : ByteArray) : strs (l ++ [x]) = strs l ++ [.string x] := by simp [strs]

/-- What an append to a list of texts leaves, in the form that the walk wants. -/
theorem rowS_snoc (l : List ByteArray) (x : ByteArray) : (⟨(rowS l).e, (rowS l).size, (rowS l).n + 1, (rowS l).xs ++ [.string x]⟩ : Row) = rowS (l ++ [x]) := by
  simp [rowS, strs_snoc]

set_option maxHeartbeats 400000 in
set_option maxRecDepth 100000 in
theorem addLabel_any (b t o : Nat) (pre post : List Value) (d : Db) (H : Nat → Hd) (x : ByteArray) (w : World) (h : DbIs w b t pre post d H) (ho : pre.length = o) (hl : d.labels.length ≤ 1073741824) :
    Calls Tryz.prog 129 #[.pointer (some ⟨b, o, none⟩), .string x] w fun e w' => e = .returned (.tuple #[]) ∧ ∃ H', DbIs w' b t pre post { d with labels := d.labels ++ [x] } H' ∧ Turned b w H w' H' := by
  obtain ⟨i0, hi, hz0, hz1, hz2⟩ := info_parts infoS
  obtain ⟨q0, q1, q2, q3, q4, q5, q6, q7, q8, q9, q10, q11, q12⟩ := h.cells o ho
  have hfr := h.free
  have hbw := h.lt
  have hA := h.still ((Kept.refl [] w).alloc (.cells #[.string x] 9))
  have hownA := hA.own 0
  go_enter Tryz.func129, Tryz.ntmps129
  go_wp2_with (at_builtin; refine wpList_append_row _ rfl (.tmp 8) (.tmp 10) 22 rfl i0 (.string ⟨#[]⟩) 16 (H 0) (rowS d.labels) Tryz.underlying22 hi hz0 hz1 hz2 rfl Nat.one_pos rfl hownA ⟨w.heap.size, 0, none⟩ 1 1 [.string x] rfl rfl ?c1 ?c2 Nat.one_pos ?c3 ?c4 ?_)
  case c1 => intro j u hj; match j, hj with | 0, hj => simp at hj; subst hj; simp [Addr.add]
  case c2 => intro u hu; simp at hu; subst hu; rfl
  case c3 => simp only [rowS]; unfold maxLen; omega
  case c4 => simp only [rowS]; omega
  · intro g cap' w1 hw1 hgr hfresh
    obtain ⟨k0, f0, HP⟩ := hA.app (d' := { d with labels := d.labels ++ [x] }) o 0 ho 0 (by omega) g cap' ((rowS d.labels).n + 1) _ hw1 (rowS_snoc d.labels x) hgr (by simpa using hfresh) (rows_labels d H _) (by omega) _ rfl (by simp [dbList, upd, rowS])
    simp only [Nat.add_zero] at k0 f0 HP
    clear hA hownA q0 q1 q2 q3 q4 q5 q6 q7 q8 q9 q10 q11 q12 hw1 hgr hfresh hfr
    go_wp2
    go_end0
    exact ⟨rfl, _, HP.out.1, HP.out.2.first ((Kept.refl [] w).alloc _)⟩

set_option maxHeartbeats 400000 in
set_option maxRecDepth 100000 in
theorem addTyped_any (b t o : Nat) (pre post : List Value) (d : Db) (H : Nat → Hd) (x : ByteArray) (w : World) (h : DbIs w b t pre post d H) (ho : pre.length = o) (hl : d.typed.length ≤ 1073741824) :
    Calls Tryz.prog 132 #[.pointer (some ⟨b, o, none⟩), .string x] w fun e w' => e = .returned (.tuple #[]) ∧ ∃ H', DbIs w' b t pre post { d with typed := d.typed ++ [x] } H' ∧ Turned b w H w' H' := by
  obtain ⟨i0, hi, hz0, hz1, hz2⟩ := info_parts infoS
  obtain ⟨q0, q1, q2, q3, q4, q5, q6, q7, q8, q9, q10, q11, q12⟩ := h.cells o ho
  have hfr := h.free
  have hbw := h.lt
  have hA := h.still ((Kept.refl [] w).alloc (.cells #[.string x] 9))
  have hownA := hA.own 4
  go_enter Tryz.func132, Tryz.ntmps132
  go_wp2_with (at_builtin; refine wpList_append_row _ rfl (.tmp 8) (.tmp 10) 22 rfl i0 (.string ⟨#[]⟩) 16 (H 4) (rowS d.typed) Tryz.underlying22 hi hz0 hz1 hz2 rfl Nat.one_pos rfl hownA ⟨w.heap.size, 0, none⟩ 1 1 [.string x] rfl rfl ?c1 ?c2 Nat.one_pos ?c3 ?c4 ?_)
  case c1 => intro j u hj; match j, hj with | 0, hj => simp at hj; subst hj; simp [Addr.add]
  case c2 => intro u hu; simp at hu; subst hu; rfl
  case c3 => simp only [rowS]; unfold maxLen; omega
  case c4 => simp only [rowS]; omega
  · intro g cap' w1 hw1 hgr hfresh
    obtain ⟨k0, f0, HP⟩ := hA.app (d' := { d with typed := d.typed ++ [x] }) o 4 ho 4 (by omega) g cap' ((rowS d.typed).n + 1) _ hw1 (rowS_snoc d.typed x) hgr (by simpa using hfresh) (rows_typed d H _) (by omega) _ rfl (by simp [dbList, upd, rowS])
    skip
    clear hA hownA q0 q1 q2 q3 q4 q5 q6 q7 q8 q9 q10 q11 q12 hw1 hgr hfresh hfr
    go_wp2
    go_end0
    exact ⟨rfl, _, HP.out.1, HP.out.2.first ((Kept.refl [] w).alloc _)⟩

end Go.Proofs.YtcipkfhpcbddiaaGreat

/- Package statements: the constants and the variables of a statement. -/
namespace Go.Proofs.YtcipkfhpcbddiaaGreat
open Go.RowKit

/-- How long the lists are. -/
structure Small (d : Db) (N : Nat) : Prop where
  labels : d.labels.length ≤ N
  constants : d.constants.length ≤ N
  variables : d.variables.length ≤ N
  active : d.active.length ≤ N
  typed : d.typed.length ≤ N
  blocks : d.blocks.length ≤ N
  sts : d.sts.length ≤ N
  rbl : d.rbl.length ≤ N
  symbols : d.symbols.length ≤ N
  proof : d.proof.length ≤ N

theorem rowS_more (l m : List ByteArray) : (⟨(rowS l).e, (rowS l).size, (rowS l).n + m.length, (rowS l).xs ++ strs m⟩ : Row) = rowS (l ++ m) := by
  simp [rowS, strs]
theorem strs_one (l : List ByteArray) : ∀ u ∈ strs l, u.oneCell' = true := by
  intro u hu
  simp only [strs, List.mem_map] at hu
  obtain ⟨x, _, rfl⟩ := hu
  rfl

set_option maxHeartbeats 400000 in
set_option maxRecDepth 100000 in
theorem addConstants_any (b t o : Nat) (pre post : List Value) (d : Db) (H : Nat → Hd) (w : World) (h : DbIs w b t pre post d H) (ho : pre.length = o) (hm : 0 < d.symbols.length) (hs : Small d 100000000) :
    Calls Tryz.prog 130 #[.pointer (some ⟨b, o, none⟩), .slice (H 8).ao d.symbols.length (H 8).cap] w fun e w' => e = .returned (.tuple #[]) ∧ ∃ H', DbIs w' b t pre post { d with constants := d.constants ++ d.symbols } H' ∧ Turned b w H w' H' := by
  obtain ⟨i0, hi, hz0, hz1, hz2⟩ := info_parts infoS
  obtain ⟨q0, q1, q2, q3, q4, q5, q6, q7, q8, q9, q10, q11, q12⟩ := h.cells o ho
  have hfr := h.free
  have hbw := h.lt
  have hown := h.own 1
  have hw8 : Owns w (H 8) (rowS d.symbols) := h.own 8
  have hl1 := hs.constants
  have hl2 := hs.symbols
  rcases hw8.ways with ⟨_, h0, _⟩ | ⟨g8, cur8, e8, _⟩
  · have : d.symbols.length = 0 := h0
    omega
  · rw [e8]
    have hsrc : Hid (∀ j u, (strs d.symbols)[j]? = some u → w.cell? ((⟨g8, 0, none⟩ : Addr).add j) = some u) := fun j u hj => by rw [addr_add]; exact hw8.cell e8 j u hj
    clear hw8
    go_enter Tryz.func130, Tryz.ntmps130
    go_wp2_with (at_builtin; refine wpList_append_row _ rfl (.tmp 8) (.tmp 9) 22 rfl i0 (.string ⟨#[]⟩) 16 (H 1) (rowS d.constants) Tryz.underlying22 hi hz0 hz1 hz2 rfl Nat.one_pos rfl hown ⟨g8, 0, none⟩ d.symbols.length (H 8).cap (strs d.symbols) rfl ?c0 hsrc.out (strs_one _) hm ?c3 ?c4 ?_)
    case c0 => simp [strs, rowS]
    case c3 => simp only [rowS]; unfold maxLen; omega
    case c4 => simp only [rowS]; omega
    · intro g cap' w1 hw1 hgr hfresh
      obtain ⟨k0, f0, HP⟩ := h.app (d' := { d with constants := d.constants ++ d.symbols }) o 1 ho 1 (by omega) g cap' ((rowS d.constants).n + d.symbols.length) _ hw1 (rowS_more d.constants d.symbols) hgr hfresh (rows_constants d H _) (by omega) _ rfl (by simp [dbList, upd, rowS])
      clear hown q0 q1 q2 q3 q4 q5 q6 q7 q8 q9 q10 q11 q12 hw1 hgr hfresh hfr hsrc
      go_wp2
      go_end0
      exact ⟨rfl, _, HP.out.1, HP.out.2⟩

def addVarsTo (v l : List ByteArray) : List ByteArray := l.foldl (fun v x => if hasF v x = true then v else v ++ [x]) v
def varsAt (d : Db) (k : Nat) : Db := { d with active := d.active ++ d.symbols, variables := addVarsTo d.variables (d.symbols.take k) }
theorem vars_snoc (v l : List ByteArray) (x : ByteArray) : addVarsTo v (l ++ [x]) = if hasF (addVarsTo v l) x = true then addVarsTo v l else addVarsTo v l ++ [x] := by
  unfold addVarsTo; rw [List.foldl_append]; rfl
theorem vars_len (v l : List ByteArray) : (addVarsTo v l).length ≤ v.length + l.length := by
  induction l generalizing v with
  | nil => simp [addVarsTo]
  | cons x l ih =>
    have := ih (if hasF v x = true then v else v ++ [x])
    have e : addVarsTo v (x :: l) = addVarsTo (if hasF v x = true then v else v ++ [x]) l := rfl
    rw [e]
    have h2 : (if hasF v x = true then v else v ++ [x]).length ≤ v.length + 1 := by split <;> simp
    simp only [List.length_cons]
    omega
theorem take_snoc {α : Type} (l : List α) (k : Nat) (h : k < l.length) : l.take (k + 1) = l.take k ++ [l[k]] := by simp

set_option maxHeartbeats 1000000 in
set_option maxRecDepth 100000 in
theorem addVariables_any (b t o : Nat) (pre post : List Value) (d : Db) (H : Nat → Hd) (w : World) (h : DbIs w b t pre post d H) (ho : pre.length = o) (hm : 0 < d.symbols.length) (hs : Small d 100000000) :
    Calls Tryz.prog 131 #[.pointer (some ⟨b, o, none⟩), .slice (H 8).ao d.symbols.length (H 8).cap] w fun e w' => e = .returned (.tuple #[]) ∧ ∃ H', DbIs w' b t pre post (varsAt d d.symbols.length) H' ∧ Turned b w H w' H' := by
  obtain ⟨i0, hi, hz0, hz1, hz2⟩ := info_parts infoS
  obtain ⟨q0, q1, q2, q3, q4, q5, q6, q7, q8, q9, q10, q11, q12⟩ := h.cells o ho
  have hfr := h.free
  have hbw := h.lt
  have hown := h.own 3
  have hw8 : Owns w (H 8) (rowS d.symbols) := h.own 8
  have hl1 := hs.active
  have hl2 := hs.symbols
  have hl3 := hs.variables
  rcases hw8.ways with ⟨_, h0, _⟩ | ⟨g8, cur8, e8, _⟩
  · have : d.symbols.length = 0 := h0
    omega
  · rw [e8]
    have hsrc : Hid (∀ j u, (strs d.symbols)[j]? = some u → w.cell? ((⟨g8, 0, none⟩ : Addr).add j) = some u) := fun j u hj => by rw [addr_add]; exact hw8.cell e8 j u hj
    clear hw8
    go_enter Tryz.func131, Tryz.ntmps131
    go_wp2_with (at_builtin; refine wpList_append_row _ rfl (.tmp 9) (.tmp 10) 22 rfl i0 (.string ⟨#[]⟩) 16 (H 3) (rowS d.active) Tryz.underlying22 hi hz0 hz1 hz2 rfl Nat.one_pos rfl hown ⟨g8, 0, none⟩ d.symbols.length (H 8).cap (strs d.symbols) rfl ?c0 hsrc.out (strs_one _) hm ?c3 ?c4 ?_)
    case c0 => simp [strs, rowS]
    case c3 => simp only [rowS]; unfold maxLen; omega
    case c4 => simp only [rowS]; omega
    · intro g cap' w1 hw1 hgr hfresh
      obtain ⟨k0, f0, HP⟩ := h.app (d' := varsAt d 0) o 3 ho 3 (by omega) g cap' ((rowS d.active).n + d.symbols.length) _ hw1 (rowS_more d.active d.symbols) hgr hfresh (rows_active d H _) (by omega) _ rfl (by simp [dbList, upd, rowS, varsAt, addVarsTo])
      clear hown q0 q1 q2 q3 q4 q5 q6 q7 q8 q9 q10 q11 q12 hw1 hgr hfresh hfr hsrc
      go_wp2
      go_loopg [4] d.symbols.length (fun g i wr => ∃ (k : Nat) (H1 : Nat → Hd), k ≤ d.symbols.length ∧ g = d.symbols.length - k ∧ i = .int .i64 k ∧ H1 8 = H 8 ∧ DbIs wr b t pre post (varsAt d k) H1 ∧ Turned b w H wr H1)
      case atStart => exact ⟨0, _, by omega, by omega, rfl, by simp [upd], HP.out.1, HP.out.2⟩
      case round =>
        obtain ⟨k, H1, hk, hg, rfl, h8, D, T⟩ := hrel
        clear HP k0 f0
        by_cases hlt : k < d.symbols.length
        · obtain ⟨q0, q1, q2, q3, q4, q5, q6, q7, q8, q9, q10, q11, q12⟩ := D.cells o ho
          have hw8 : Owns wr (H 8) (rowS d.symbols) := by have := D.own 8; rw [h8] at this; exact this
          have c1 := hw8.cell e8 k (.string d.symbols[k]) (strs_at d.symbols k hlt)
          have hvl : (varsAt d k).variables.length ≤ 1073741824 := by
            have := vars_len d.variables (d.symbols.take k)
            simp only [List.length_take] at this
            show (addVarsTo d.variables (d.symbols.take k)).length ≤ _
            omega
          have hfr := D.free
          have HS : Hid (varsAt d (k + 1) = if hasF (varsAt d k).variables d.symbols[k] = true then varsAt d k else { varsAt d k with variables := (varsAt d k).variables ++ [d.symbols[k]] }) := by
            show varsAt d (k + 1) = _
            unfold varsAt
            rw [take_snoc d.symbols k hlt, vars_snoc]
            simp only
            split <;> rfl
          generalize varsAt d k = dk at *
          generalize d.symbols[k] = x at *
          clear q0 q1 q3 q4 q5 q6 q7 q8 q9 q10 q11 q12 hw8
          cases hb : hasF dk.variables x
          · have HT : Hid (varsAt d (k + 1) = { dk with variables := dk.variables ++ [x] }) := by show varsAt d (k + 1) = _; rw [HS.out]; simp [hb]
            clear HS
            go_wp2_with fail
            go_quiet ((go_at_call 116; exact Calls.quiet_of_same (has_any (H1 2) dk.variables x _ (D.still ((Kept.refl [] _).drewN _) |>.own 2) hvl)))
            obtain ⟨wq, hwq⟩ : ∃ wq, wq = wr.drewN nq := ⟨_, rfl⟩
            rw [← hwq]
            have D2 : DbIs wq b t pre post dk H1 := by rw [hwq]; exact D.still ((Kept.refl [] _).drewN _)
            have T2 : Turned b w H wq H1 := by rw [hwq]; exact T.still ((Kept.refl [] _).drewN _)
            have c1q : wq.cell? ⟨g8, k, none⟩ = some (.string x) := by rw [hwq]; exact c1
            clear hwq c1 D T hfr q2
            obtain ⟨q0, q1, q2, q3, q4, q5, q6, q7, q8, q9, q10, q11, q12⟩ := D2.cells o ho
            have hfr := D2.free
            have hbq := D2.lt
            clear q0 q1 q3 q4 q5 q6 q7 q8 q9 q10 q11 q12
            have hD : Hid (DbIs (wq.alloc (.cells #[.string x] 9)).drew b t pre post dk H1) := D2.still ((Kept.refl [] wq).alloc _).drew
            have s2 : Hid (∀ j u, ([.string x] : List Value)[j]? = some u → (wq.alloc (.cells #[.string x] 9)).drew.cell? ((⟨wq.heap.size, 0, none⟩ : Addr).add j) = some u) := by
              intro j u hj
              have hk : (wq.alloc (.cells #[.string x] 9)).drew.heap[wq.heap.size]? = some (.cells #[.string x] 9 (0, 0)) := heap_alloc_new wq _
              rw [addr_add, cell_of hk]; simpa using hj
            have s3 : Hid (∀ u ∈ ([.string x] : List Value), u.oneCell' = true) := by intro u hu; simp at hu; subst hu; rfl
            have s4 : Hid ((rowS dk.variables).n + 1 ≤ maxLen) := by show _ ≤ _; simp only [rowS]; unfold maxLen; omega
            have s5 : Hid (((rowS dk.variables).n + 1) * 16 ≤ 140737488355328) := by show _ ≤ _; simp only [rowS]; omega
            go_wp2_with fail
            go_region_law (refine step_append_row rfl (.tmp 34) (.tmp 39) 22 rfl i0 (.string ⟨#[]⟩) 16 (H1 2) (rowS dk.variables) Tryz.underlying22 hi hz0 hz1 hz2 rfl Nat.one_pos (by simp [Act.eval] <;> rfl) (hD.out.own 2) ⟨wq.heap.size, 0, none⟩ 1 1 [.string x] (by simp [Act.eval]) rfl s2.out s3.out Nat.one_pos s4.out s5.out ?_; intro g cap' w1 hw1 hgr hfresh; obtain ⟨k5, f5, HP⟩ := hD.out.app (d' := { dk with variables := dk.variables ++ [x] }) o 2 ho 2 (by omega) g cap' ((rowS dk.variables).n + 1) _ hw1 (rowS_snoc dk.variables x) hgr (by simpa using hfresh) (rows_variables dk H1 _) (by omega) _ rfl (by simp [dbList, upd, rowS]); clear hw1 hgr hfresh)
            all_goals go_wp2
            all_goals
              go_roundg (d.symbols.length - (k + 1))
              case measure => omega
              case rel => exact ⟨k + 1, _, by omega, rfl, by go_num, by simp [upd, h8], by rw [HT.out]; exact HP.out.1, T2.trans (HP.out.2.first ((Kept.refl [] _).alloc _).drew)⟩
          · have HT : Hid (varsAt d (k + 1) = dk) := by show varsAt d (k + 1) = _; rw [HS.out]; simp [hb]
            clear HS
            go_wp2_with fail
            go_quiet ((go_at_call 116; exact Calls.quiet_of_same (has_any (H1 2) dk.variables x _ (D.still ((Kept.refl [] _).drewN _) |>.own 2) hvl)))
            go_wp2
            go_roundg (d.symbols.length - (k + 1))
            case measure => omega
            case rel => exact ⟨k + 1, H1, by omega, rfl, by go_num, h8, by rw [HT.out]; exact D.still ((Kept.refl [] _).drewN _), T.still ((Kept.refl [] _).drewN _)⟩
        · have e : k = d.symbols.length := by omega
          subst e
          go_wp2
          go_end0
          exact ⟨rfl, H1, D, T⟩

end Go.Proofs.YtcipkfhpcbddiaaGreat

/- Package statements: the small looks. -/
namespace Go.Proofs.YtcipkfhpcbddiaaGreat
open Go.RowKit

def labelB (n : Int) : Bool := (decide (97 ≤ n) && decide (n ≤ 122)) || (decide (65 ≤ n) && decide (n ≤ 90)) || (decide (48 ≤ n) && decide (n ≤ 57)) || n == 45 || n == 95 || n == 46
def isLabelF (s : ByteArray) : Bool := (List.range s.size).all (fun i => labelB (byteAt s i))

set_option maxHeartbeats 1000000 in
theorem isLabelByte_any (n : Int) (w : World) :
    Calls Tryz.prog 143 #[.int .u8 n] w fun e w' => e = .returned (.bool (labelB n)) ∧ w' = w := by
  by_cases h1 : (97 ≤ n ∧ n ≤ 122) ∨ (65 ≤ n ∧ n ≤ 90) ∨ (48 ≤ n ∧ n ≤ 57)
  · have HL : Hid (labelB n = true) := by show labelB n = true; simp only [labelB, Bool.or_eq_true, Bool.and_eq_true, decide_eq_true_eq]; omega
    rcases h1 with h1 | h1 | h1
    all_goals
      go_enter Tryz.func143, Tryz.ntmps143
      go_wp2
      go_ret
      exact ⟨ret_bool HL.out.symm, rfl⟩
  · have HL : Hid (labelB n = (n == 45 || n == 95 || n == 46)) := by
      show labelB n = _
      have e1 : (decide (97 ≤ n) && decide (n ≤ 122)) = false := by simp; omega
      have e2 : (decide (65 ≤ n) && decide (n ≤ 90)) = false := by simp; omega
      have e3 : (decide (48 ≤ n) && decide (n ≤ 57)) = false := by simp; omega
      simp only [labelB, e1, e2, e3, Bool.false_or]
    go_enter Tryz.func143, Tryz.ntmps143
    go_wp2
    all_goals go_ret
    all_goals (refine ⟨ret_bool ?_, rfl⟩; first | rfl | (rw [HL.out]; done) | (rw [HL.out]; simp [*]; done))

theorem all_no {n : Nat} {p : Nat → Bool} (i : Nat) (h : i < n) (hp : p i = false) : (List.range n).all p = false := by
  rw [List.all_eq_false]; exact ⟨i, by simpa using h, by simp [hp]⟩
theorem all_yes {n : Nat} {p : Nat → Bool} (h : ∀ i, i < n → p i = true) : (List.range n).all p = true := by
  rw [List.all_eq_true]; intro i hi; exact h i (by simpa using hi)

set_option maxHeartbeats 400000 in
theorem isLabel_any (s : ByteArray) (w : World) (hs : s.size ≤ 1073741824) :
    Calls Tryz.prog 128 #[.string s] w fun e w' => e = .returned (.bool (isLabelF s)) ∧ w' = w := by
  go_enter Tryz.func128, Tryz.ntmps128
  go_wp2
  go_loopg [3] s.size (fun g i wr => ∃ k : Nat, k ≤ s.size ∧ g = s.size - k ∧ i = .int .i64 k ∧ Hid (∀ i, i < k → labelB (byteAt s i) = true) ∧ wr = w)
  case atStart => exact ⟨0, by omega, by omega, rfl, fun i h => by omega, rfl⟩
  case round =>
    obtain ⟨k, hk, hg, rfl, hall, rfl⟩ := hrel
    by_cases hlt : k < s.size
    · cases hb : labelB (s[k].toNat : Int)
      · have HY : Hid (isLabelF s = false) := all_no k hlt (by rw [byteAt_of s k hlt]; exact hb)
        go_wp2_with fail
        refine (isLabelByte_any _ _).mono ?_
        rintro e w1 ⟨rfl, rfl⟩
        go_wp2
        go_ret
        exact ⟨ret_bool HY.out.symm, rfl⟩
      · go_wp2_with fail
        refine (isLabelByte_any _ _).mono ?_
        rintro e w1 ⟨rfl, rfl⟩
        go_wp2
        go_roundg (s.size - (k + 1))
        case measure => omega
        case rel =>
          refine ⟨k + 1, by omega, rfl, by go_num, ?_, rfl⟩
          intro i hi
          by_cases e : i = k
          · subst e; rw [byteAt_of s i hlt]; exact hb
          · exact hall.out i (by omega)
    · have HY : Hid (isLabelF s = true) := all_yes (fun i hi => hall.out i (by omega))
      go_wp2
      go_ret
      exact ⟨ret_bool HY.out.symm, rfl⟩

theorem isActive_any (b t o : Nat) (pre post : List Value) (d : Db) (H : Nat → Hd) (x : ByteArray) (w : World) (h : DbIs w b t pre post d H) (ho : pre.length = o) (hl : d.active.length ≤ 1073741824) :
    Calls Tryz.prog 134 #[.pointer (some ⟨b, o, none⟩), .string x] w fun e w' => e = .returned (.bool (hasF d.active x)) ∧ w' = w := by
  obtain ⟨q0, q1, q2, q3, q4, q5, q6, q7, q8, q9, q10, q11, q12⟩ := h.cells o ho
  go_enter Tryz.func134, Tryz.ntmps134
  go_wp2_with fail
  refine (has_any (H 3) d.active x _ (by exact h.own 3) hl).mono ?_
  rintro e w1 ⟨rfl, rfl⟩
  go_wp2
  go_ret
  exact ⟨rfl, rfl⟩

theorem isConstant_any (b t o : Nat) (pre post : List Value) (d : Db) (H : Nat → Hd) (x : ByteArray) (w : World) (h : DbIs w b t pre post d H) (ho : pre.length = o) (hl : d.constants.length ≤ 1073741824) :
    Calls Tryz.prog 135 #[.pointer (some ⟨b, o, none⟩), .string x] w fun e w' => e = .returned (.bool (hasF d.constants x)) ∧ w' = w := by
  obtain ⟨q0, q1, q2, q3, q4, q5, q6, q7, q8, q9, q10, q11, q12⟩ := h.cells o ho
  go_enter Tryz.func135, Tryz.ntmps135
  go_wp2_with fail
  refine (has_any (H 1) d.constants x _ (by exact h.own 1) hl).mono ?_
  rintro e w1 ⟨rfl, rfl⟩
  go_wp2
  go_ret
  exact ⟨rfl, rfl⟩

theorem isTyped_any (b t o : Nat) (pre post : List Value) (d : Db) (H : Nat → Hd) (x : ByteArray) (w : World) (h : DbIs w b t pre post d H) (ho : pre.length = o) (hl : d.typed.length ≤ 1073741824) :
    Calls Tryz.prog 136 #[.pointer (some ⟨b, o, none⟩), .string x] w fun e w' => e = .returned (.bool (hasF d.typed x)) ∧ w' = w := by
  obtain ⟨q0, q1, q2, q3, q4, q5, q6, q7, q8, q9, q10, q11, q12⟩ := h.cells o ho
  go_enter Tryz.func136, Tryz.ntmps136
  go_wp2_with fail
  refine (has_any (H 4) d.typed x _ (by exact h.own 4) hl).mono ?_
  rintro e w1 ⟨rfl, rfl⟩
  go_wp2
  go_ret
  exact ⟨rfl, rfl⟩

def isTakenF (d : Db) (x : ByteArray) : Bool := hasF d.labels x || hasF d.constants x || hasF d.variables x
def isTakenVF (d : Db) (x : ByteArray) : Bool := hasF d.labels x || hasF d.constants x || hasF d.active x

set_option maxHeartbeats 400000 in
theorem isTaken_any (b t o : Nat) (pre post : List Value) (d : Db) (H : Nat → Hd) (x : ByteArray) (w : World) (h : DbIs w b t pre post d H) (ho : pre.length = o) (hs : Small d 1073741824) :
    Calls Tryz.prog 117 #[.pointer (some ⟨b, o, none⟩), .string x] w fun e w' => e = .returned (.bool (isTakenF d x)) ∧ w' = w := by
  obtain ⟨q0, q1, q2, q3, q4, q5, q6, q7, q8, q9, q10, q11, q12⟩ := h.cells o ho
  cases h1 : hasF d.labels x
  · cases h2 : hasF d.constants x
    · have HT : Hid (isTakenF d x = hasF d.variables x) := by show isTakenF d x = _; simp [isTakenF, h1, h2]
      go_enter Tryz.func117, Tryz.ntmps117
      go_wp2_with fail
      refine (has_any (H 0) d.labels x _ (by exact h.own 0) hs.labels).mono ?_
      rintro e w1 ⟨rfl, rfl⟩
      go_wp2_with fail
      refine (has_any (H 1) d.constants x _ (by exact h.own 1) hs.constants).mono ?_
      rintro e w1 ⟨rfl, rfl⟩
      go_wp2_with fail
      refine (has_any (H 2) d.variables x _ (by exact h.own 2) hs.variables).mono ?_
      rintro e w1 ⟨rfl, rfl⟩
      go_wp2
      go_ret
      exact ⟨ret_bool (by rw [HT.out]), rfl⟩
    · have HT : Hid (isTakenF d x = true) := by show isTakenF d x = _; simp [isTakenF, h1, h2]
      go_enter Tryz.func117, Tryz.ntmps117
      go_wp2_with fail
      refine (has_any (H 0) d.labels x _ (by exact h.own 0) hs.labels).mono ?_
      rintro e w1 ⟨rfl, rfl⟩
      go_wp2_with fail
      refine (has_any (H 1) d.constants x _ (by exact h.own 1) hs.constants).mono ?_
      rintro e w1 ⟨rfl, rfl⟩
      go_wp2
      go_ret
      exact ⟨ret_bool (by rw [HT.out]), rfl⟩
  · have HT : Hid (isTakenF d x = true) := by show isTakenF d x = _; simp [isTakenF, h1]
    go_enter Tryz.func117, Tryz.ntmps117
    go_wp2_with fail
    refine (has_any (H 0) d.labels x _ (by exact h.own 0) hs.labels).mono ?_
    rintro e w1 ⟨rfl, rfl⟩
    go_wp2
    go_ret
    exact ⟨ret_bool (by rw [HT.out]), rfl⟩

set_option maxHeartbeats 400000 in
theorem isTakenV_any (b t o : Nat) (pre post : List Value) (d : Db) (H : Nat → Hd) (x : ByteArray) (w : World) (h : DbIs w b t pre post d H) (ho : pre.length = o) (hs : Small d 1073741824) :
    Calls Tryz.prog 118 #[.pointer (some ⟨b, o, none⟩), .string x] w fun e w' => e = .returned (.bool (isTakenVF d x)) ∧ w' = w := by
  obtain ⟨q0, q1, q2, q3, q4, q5, q6, q7, q8, q9, q10, q11, q12⟩ := h.cells o ho
  cases h1 : hasF d.labels x
  · cases h2 : hasF d.constants x
    · have HT : Hid (isTakenVF d x = hasF d.active x) := by show isTakenVF d x = _; simp [isTakenVF, h1, h2]
      go_enter Tryz.func118, Tryz.ntmps118
      go_wp2_with fail
      refine (has_any (H 0) d.labels x _ (by exact h.own 0) hs.labels).mono ?_
      rintro e w1 ⟨rfl, rfl⟩
      go_wp2_with fail
      refine (has_any (H 1) d.constants x _ (by exact h.own 1) hs.constants).mono ?_
      rintro e w1 ⟨rfl, rfl⟩
      go_wp2_with fail
      refine (has_any (H 3) d.active x _ (by exact h.own 3) hs.active).mono ?_
      rintro e w1 ⟨rfl, rfl⟩
      go_wp2
      go_ret
      exact ⟨ret_bool (by rw [HT.out]), rfl⟩
    · have HT : Hid (isTakenVF d x = true) := by show isTakenVF d x = _; simp [isTakenVF, h1, h2]
      go_enter Tryz.func118, Tryz.ntmps118
      go_wp2_with fail
      refine (has_any (H 0) d.labels x _ (by exact h.own 0) hs.labels).mono ?_
      rintro e w1 ⟨rfl, rfl⟩
      go_wp2_with fail
      refine (has_any (H 1) d.constants x _ (by exact h.own 1) hs.constants).mono ?_
      rintro e w1 ⟨rfl, rfl⟩
      go_wp2
      go_ret
      exact ⟨ret_bool (by rw [HT.out]), rfl⟩
  · have HT : Hid (isTakenVF d x = true) := by show isTakenVF d x = _; simp [isTakenVF, h1]
    go_enter Tryz.func118, Tryz.ntmps118
    go_wp2_with fail
    refine (has_any (H 0) d.labels x _ (by exact h.own 0) hs.labels).mono ?_
    rintro e w1 ⟨rfl, rfl⟩
    go_wp2
    go_ret
    exact ⟨ret_bool (by rw [HT.out]), rfl⟩

theorem inBlock_any (b t o : Nat) (pre post : List Value) (d : Db) (H : Nat → Hd) (w : World) (h : DbIs w b t pre post d H) (ho : pre.length = o) :
    Calls Tryz.prog 78 #[.pointer (some ⟨b, o, none⟩)] w fun e w' => e = .returned (.bool (decide (0 < d.blocks.length))) ∧ w' = w := by
  obtain ⟨q0, q1, q2, q3, q4, q5, q6, q7, q8, q9, q10, q11, q12⟩ := h.cells o ho
  go_enter Tryz.func78, Tryz.ntmps78
  go_wp2
  go_ret
  exact ⟨rfl, rfl⟩

def openF (d : Db) : Bool := d.kind != 0 || decide (0 < d.blocks.length)

theorem open_any (b t o : Nat) (pre post : List Value) (d : Db) (H : Nat → Hd) (w : World) (h : DbIs w b t pre post d H) (ho : pre.length = o) :
    Calls Tryz.prog 63 #[.pointer (some ⟨b, o, none⟩)] w fun e w' => e = .returned (.bool (openF d)) ∧ w' = w := by
  obtain ⟨q0, q1, q2, q3, q4, q5, q6, q7, q8, q9, q10, q11, q12⟩ := h.cells o ho
  cases hk : (d.kind != 0)
  · have HT : Hid (openF d = decide (0 < d.blocks.length)) := by show openF d = _; simp only [openF, hk, Bool.false_or]
    go_enter Tryz.func63, Tryz.ntmps63
    go_wp2_with fail
    refine (inBlock_any b t o pre post d H _ h ho).mono ?_
    rintro e w1 ⟨rfl, rfl⟩
    go_wp2
    go_ret
    exact ⟨ret_bool (by rw [HT.out]), rfl⟩
  · have HT : Hid (openF d = true) := by show openF d = _; simp only [openF, hk, Bool.true_or]
    go_enter Tryz.func63, Tryz.ntmps63
    go_wp2_with fail
    go_ret
    exact ⟨ret_bool (by rw [HT.out]), rfl⟩

def leastF (d : Db) : Int := if (d.kind == 1) = true ∨ (d.kind == 2) = true then 2 else 1

theorem least_any (b t o : Nat) (pre post : List Value) (d : Db) (H : Nat → Hd) (w : World) (h : DbIs w b t pre post d H) (ho : pre.length = o) :
    Calls Tryz.prog 114 #[.pointer (some ⟨b, o, none⟩)] w fun e w' => e = .returned (.int .i64 (leastF d)) ∧ w' = w := by
  obtain ⟨q0, q1, q2, q3, q4, q5, q6, q7, q8, q9, q10, q11, q12⟩ := h.cells o ho
  cases h4 : (d.kind == 1)
  · cases h5 : (d.kind == 2)
    all_goals
      have HT : Hid (leastF d = if (d.kind == 1) = true ∨ (d.kind == 2) = true then 2 else 1) := rfl
      go_enter Tryz.func114, Tryz.ntmps114
      go_wp2
      go_ret
      exact ⟨ret_int (by rw [HT.out, h4, h5]; simp), rfl⟩
  · have HT : Hid (leastF d = 2) := by show leastF d = _; simp only [leastF, h4]; simp
    go_enter Tryz.func114, Tryz.ntmps114
    go_wp2
    go_ret
    exact ⟨ret_int (by rw [HT.out]), rfl⟩

/-- The first c texts, as Go's own 'first' has them. -/
theorem first_any (hd : Hd) (l : List ByteArray) (c : Nat) (w : World) (ho : Owns w hd (rowS l)) (hc : c ≤ 1073741824) :
    Calls Tryz.prog 127 #[.slice hd.ao l.length hd.cap, .int .i64 c] w fun e w' => e = .returned (.slice hd.ao (if c ≤ l.length then c else l.length) hd.cap) ∧ w' = w := by
  obtain ⟨ao, cap⟩ := hd
  by_cases hle : c ≤ l.length
  · rcases ho.ways with ⟨e0, h0, _⟩ | ⟨g, cur, e1, e2, e3, e4, _⟩
    · have h0' : l.length = 0 := h0
      have hc0 : c = 0 := by omega
      subst hc0
      injection e0 with e0 e2
      subst e0 e2
      simp only [if_pos hle]
      rw [h0']
      clear ho h0 hle h0' hc
      go_enter Tryz.func127, Tryz.ntmps127
      go_wp2
      go_ret
      exact ⟨rfl, rfl⟩
    · simp only at e1 e3 e4
      have e3' : l.length ≤ cap := e3
      unfold maxLen at e4
      subst e1
      simp only [if_pos hle]
      go_enter Tryz.func127, Tryz.ntmps127
      go_wp2
      go_ret
      exact ⟨rfl, rfl⟩
  · simp only [if_neg hle]
    go_enter Tryz.func127, Tryz.ntmps127
    go_wp2
    go_ret
    exact ⟨rfl, rfl⟩

/-- What is left of an owned slice when it is cut. -/
theorem Owns.cut {w : World} {h : Hd} {l : List ByteArray} (o : Owns w h (rowS l)) (c : Nat) (hc : c ≤ l.length) : Owns w h (rowS (l.take c)) := by
  have hlen : (l.take c).length = c := by simp; omega
  rcases o.ways with ⟨e0, h0, _⟩ | ⟨g, cur, e1, e2, e3, e4, e5, e6⟩
  · have h0' : l.length = 0 := h0
    have : c = 0 := by omega
    subst this
    subst e0
    exact ⟨by simp [rowS, strs], Or.inl ⟨by simp [rowS], by simp [rowS]⟩⟩
  · obtain ⟨ao, cap⟩ := h
    simp only at e1 e3 e4 e5
    subst e1
    refine ⟨by simp [rowS, strs], Or.inr ⟨g, cap, cur, rfl, Nat.zero_le _, e2, ?_, e4, e5, ?_⟩⟩
    · have : l.length ≤ cap := e3
      simp only [rowS]; omega
    · have e6' : cur.toList.take (l.length * 1) = strs l := e6
      simp only [rowS, hlen]
      have : strs (l.take c) = (strs l).take c := by simp [strs, List.map_take]
      rw [this, ← e6', List.take_take]
      congr 1
      omega

end Go.Proofs.YtcipkfhpcbddiaaGreat
