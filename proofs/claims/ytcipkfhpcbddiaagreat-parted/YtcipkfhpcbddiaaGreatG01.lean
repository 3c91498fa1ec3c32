/- Our texts: Base, Words1, WordsF. -/
import Derived.Test.YtcipkfhpcbddiaaGreatChecked
import Derived.WalkKit
import Derived.WalkSpells
import Derived.WalkLawsBesides
import Derived.Deep.QuietTactic
import Derived.BigQuiet
/- Our own base: what a call leaves of memory, said block by block. -/
namespace Go.Proofs.YtcipkfhpcbddiaaGreat
open Go.RowKit

/-- What is in no block of S, and was there, is as it was; the streams too; no block has gone. -/
structure Kept (S : List Nat) (w w' : World) : Prop where
  os : w'.os = w.os
  tape : w'.tape = w.tape
  output : w'.output = w.output
  size : w.heap.size ≤ w'.heap.size
  block : ∀ k, k < w.heap.size → k ∉ S → w'.heap[k]? = w.heap[k]?

theorem Kept.refl (S : List Nat) (w : World) : Kept S w w := ⟨rfl, rfl, rfl, Nat.le_refl _, fun _ _ _ => rfl⟩

theorem Kept.trans {S : List Nat} {a b c : World} (h : Kept S a b) (k : Kept S b c) : Kept S a c :=
  ⟨k.os.trans h.os, k.tape.trans h.tape, k.output.trans h.output, Nat.le_trans h.size k.size,
    fun i hi hs => (k.block i (Nat.lt_of_lt_of_le hi h.size) hs).trans (h.block i hi hs)⟩

theorem Kept.mono {S S' : List Nat} {w w' : World} (h : Kept S w w') (hS : ∀ k, k ∈ S → k < w.heap.size → k ∈ S') : Kept S' w w' :=
  ⟨h.os, h.tape, h.output, h.size, fun k hk hn => h.block k hk (fun hm => hn (hS k hm hk))⟩

theorem Kept.drew {S : List Nat} {a w : World} (h : Kept S a w) : Kept S a w.drew := ⟨h.os, h.tape, h.output, h.size, h.block⟩

theorem drewN_heap (w : World) (n : Nat) : (w.drewN n).heap = w.heap ∧ (w.drewN n).os = w.os ∧ (w.drewN n).tape = w.tape ∧ (w.drewN n).output = w.output := by
  refine ⟨?_, ?_, ?_, ?_⟩ <;> rfl

theorem Kept.drewN {S : List Nat} {a w : World} (h : Kept S a w) (n : Nat) : Kept S a (w.drewN n) := ⟨h.os, h.tape, h.output, h.size, h.block⟩

theorem Kept.alloc {S : List Nat} {a w : World} (h : Kept S a w) (o : Obj) : Kept S a (w.alloc o) :=
  h.trans ⟨rfl, rfl, rfl, by simp, fun k hk _ => Below.heap_alloc _ _ _ hk⟩

theorem Kept.setCell {S : List Nat} {a w : World} (h : Kept S a w) {p : Addr} (hp : p.block ∈ S ∨ a.heap.size ≤ p.block) (u : Value) : Kept S a (w.setCell p u) :=
  ⟨h.os, h.tape, h.output, by have := h.size; simp [World.setCell]; omega, fun k hk hs => by
    rw [Below.heap_setCell _ _ _ _ (by rintro rfl; exact hp.elim hs (fun hp => by omega))]; exact h.block k hk hs⟩

theorem Kept.below {w w' : World} (h : Kept [] w w') : Below w.heap.size w w' :=
  ⟨h.os, h.tape, h.output, h.size, fun k hk => h.block k hk (by simp)⟩

/-- A block of plain cells, none of them frozen: what its cells read as. -/
theorem cell_of {w : World} {b t : Nat} {c : Array Value} (h : w.heap[b]? = some (.cells c t (0, 0))) (i : Nat) : w.cell? ⟨b, i, none⟩ = c[i]? := by
  unfold World.cell?; simp [h]

theorem free_of {w : World} {b t : Nat} {c : Array Value} (h : w.heap[b]? = some (.cells c t (0, 0))) (i : Nat) : w.frozen? ⟨b, i, none⟩ = false := by
  unfold World.frozen?; simp [h]

theorem block_setCell {w : World} {b t : Nat} {c : Array Value} (h : w.heap[b]? = some (.cells c t (0, 0))) (i : Nat) (u : Value) :
    (w.setCell ⟨b, i, none⟩ u).heap[b]? = some (.cells (c.setIfInBounds i u) t (0, 0)) := by
  simp [World.setCell, Array.getElem?_modify, h]

theorem lt_of_get {w : World} {b : Nat} {o : Obj} (h : w.heap[b]? = some o) : b < w.heap.size := by
  rcases Nat.lt_or_ge b w.heap.size with h' | h'
  · exact h'
  · rw [Array.getElem?_eq_none h'] at h; simp at h

/-- A callee that leaves the world as it is, inside a region that draws, behind a region that drew. -/
theorem quiet2 {P : Program} {f : FuncId} {args : Array Value} {w : World} {q x : Nat} {v : Value} (h : Calls P f args (w.drewN (q + x)) fun e w' => e = .returned v ∧ w' = w.drewN (q + x)) :
    Calls P f args (w.drewN (q + x)) fun e w' => e = .returned v ∧ ∃ n, w' = w.drewN (q + n) :=
  h.mono fun _ _ hh => ⟨hh.1, x, hh.2⟩

theorem ret_bool {a b : Bool} (h : a = b) : Ending.returned (.bool a) = .returned (.bool b) := by rw [h]
theorem ret_int {k : IntKind} {a b : Int} (h : a = b) : Ending.returned (.int k a) = .returned (.int k b) := by rw [h]

theorem bytes_ext {a b : ByteArray} (h : a.toList = b.toList) : a = b := by
  rw [ByteArray.toList_eq, ByteArray.toList_eq] at h
  cases a; cases b
  simp only [Array.toList_inj] at h
  rw [h]
theorem str_true {a b : ByteArray} (h : (a.toList == b.toList) = true) : a = b := bytes_ext (by simpa using h)
theorem str_false {a b : ByteArray} (h : (a.toList == b.toList) = false) : a ≠ b := by rintro rfl; simp at h
theorem str_same {a b : ByteArray} (h : a = b) : (a.toList == b.toList) = true := by rw [h]; simp
theorem str_other {a b : ByteArray} (h : a ≠ b) : (a.toList == b.toList) = false := by
  cases e : (a.toList == b.toList)
  · rfl
  · exact absurd (str_true e) h

end Go.Proofs.YtcipkfhpcbddiaaGreat

/- Package words: the two kinds of bytes; a scanner's step and place. -/
namespace Go.Proofs.YtcipkfhpcbddiaaGreat
open Go.RowKit

def blankB (n : Int) : Bool := n == 32 || n == 9 || n == 10 || n == 12 || n == 13
def plainB (n : Int) : Bool := decide (33 ≤ n) && decide (n ≤ 126)

set_option maxHeartbeats 400000 in
theorem isBlank_any (n : Int) (w : World) :
    Calls Tryz.prog 91 #[.int .u8 n] w fun e w' => e = .returned (.bool (blankB n)) ∧ w' = w := by
  go_enter Tryz.func91, Tryz.ntmps91
  go_wp2
  all_goals go_ret
  all_goals (refine ⟨?_, rfl⟩; simp [blankB, *])

set_option maxHeartbeats 400000 in
theorem isPrintable_any (n : Int) (w : World) :
    Calls Tryz.prog 94 #[.int .u8 n] w fun e w' => e = .returned (.bool (plainB n)) ∧ w' = w := by
  go_enter Tryz.func94, Tryz.ntmps94
  go_wp2
  all_goals go_ret
  all_goals (refine ⟨?_, rfl⟩; first | (simp [plainB, *]; done) | (simp [plainB]; omega))

/-- The byte at place k, as Go's walk has it. -/
def byteAt (d : ByteArray) (k : Nat) : Int := if h : k < d.size then ((d[k]'h).toNat : Int) else 0
theorem byteAt_of (d : ByteArray) (k : Nat) (h : k < d.size) : byteAt d k = ((d[k]'h).toNat : Int) := by unfold byteAt; rw [dif_pos h]

/-- The line and the column of place k: both from 1 on; a line ends behind its byte 10. -/
def lineAt (d : ByteArray) : Nat → Int
  | 0 => 1
  | k + 1 => if byteAt d k == 10 then lineAt d k + 1 else lineAt d k
def colAt (d : ByteArray) : Nat → Int
  | 0 => 1
  | k + 1 => if byteAt d k == 10 then 1 else colAt d k + 1

theorem line_le (d : ByteArray) (k : Nat) : 1 ≤ lineAt d k ∧ lineAt d k ≤ k + 1 := by
  induction k with
  | zero => simp [lineAt]
  | succ k ih => simp only [lineAt]; split <;> omega
theorem col_le (d : ByteArray) (k : Nat) : 1 ≤ colAt d k ∧ colAt d k ≤ k + 1 := by
  induction k with
  | zero => simp [colAt]
  | succ k ih => simp only [colAt]; split <;> omega

def scanCells (n d : ByteArray) (k : Nat) : Array Value := #[.string n, .string d, .int .i64 k, .int .i64 (lineAt d k), .int .i64 (colAt d k)]
/-- Block b is a scanner of the file (n, d), ahead of place k. -/
def ScanAt (w : World) (b : Nat) (n d : ByteArray) (k : Nat) : Prop := w.heap[b]? = some (.cells (scanCells n d k) 152 (0, 0))

theorem ScanAt.cells {w : World} {b : Nat} {n d : ByteArray} {k : Nat} (h : ScanAt w b n d k) :
    w.cell? ⟨b, 0, none⟩ = some (.string n) ∧ w.cell? ⟨b, 1, none⟩ = some (.string d) ∧ w.cell? ⟨b, 2, none⟩ = some (.int .i64 k) ∧
    w.cell? ⟨b, 3, none⟩ = some (.int .i64 (lineAt d k)) ∧ w.cell? ⟨b, 4, none⟩ = some (.int .i64 (colAt d k)) := by
  refine ⟨?_, ?_, ?_, ?_, ?_⟩ <;> (rw [cell_of h]; rfl)

theorem ScanAt.kept {w w' : World} {b : Nat} {n d : ByteArray} {k : Nat} {S : List Nat} (h : ScanAt w b n d k) (hk : Kept S w w') (hb : b ∉ S) : ScanAt w' b n d k :=
  (hk.block b (lt_of_get h) hb).trans h

theorem Kept.get {S : List Nat} {w w' : World} (hk : Kept S w w') {b : Nat} {o : Obj} (h : w.heap[b]? = some o) (hb : b ∉ S) : w'.heap[b]? = some o :=
  (hk.block b (lt_of_get h) hb).trans h

theorem scan_step_lf {w : World} {b k : Nat} {n d : ByteArray} (h : ScanAt w b n d k) (hk : k < d.size) (hb : ((d[k].toNat : Int) == 10) = true) (m : Nat) :
    ScanAt (((((w.drewN m).setCell ⟨b, 3, none⟩ (.int .i64 (lineAt d k + 1))).setCell ⟨b, 4, none⟩ (.int .i64 0)).setCell ⟨b, 4, none⟩ (.int .i64 1)).setCell ⟨b, 2, none⟩ (.int .i64 ((k : Int) + 1))) b n d (k + 1) := by
  have h0 : (w.drewN m).heap[b]? = some (.cells (scanCells n d k) 152 (0, 0)) := h
  have h4 := block_setCell (block_setCell (block_setCell (block_setCell h0 3 (.int .i64 (lineAt d k + 1))) 4 (.int .i64 0)) 4 (.int .i64 1)) 2 (.int .i64 ((k : Int) + 1))
  unfold ScanAt
  rw [h4]
  simp [scanCells, lineAt, colAt, byteAt_of d k hk, hb]

theorem scan_step_other {w : World} {b k : Nat} {n d : ByteArray} (h : ScanAt w b n d k) (hk : k < d.size) (hb : ((d[k].toNat : Int) == 10) = false) (m : Nat) :
    ScanAt (((w.drewN m).setCell ⟨b, 4, none⟩ (.int .i64 (colAt d k + 1))).setCell ⟨b, 2, none⟩ (.int .i64 ((k : Int) + 1))) b n d (k + 1) := by
  have h0 : (w.drewN m).heap[b]? = some (.cells (scanCells n d k) 152 (0, 0)) := h
  have h4 := block_setCell (block_setCell h0 4 (.int .i64 (colAt d k + 1))) 2 (.int .i64 ((k : Int) + 1))
  unfold ScanAt
  rw [h4]
  simp [scanCells, lineAt, colAt, byteAt_of d k hk, hb]

set_option maxHeartbeats 400000 in
theorem step_any (b k : Nat) (n d : ByteArray) (w : World) (hd : d.size ≤ 1024) (hk : k < d.size) (h : ScanAt w b n d k) :
    Calls Tryz.prog 92 #[.pointer (some ⟨b, 0, none⟩)] w fun e w' => e = .returned (.tuple #[]) ∧ ScanAt w' b n d (k + 1) ∧ Kept [b] w w' := by
  obtain ⟨c0, c1, c2, c3, c4⟩ := h.cells
  have f2 := free_of h 2
  have f3 := free_of h 3
  have f4 := free_of h 4
  have bl := line_le d k
  have bc := col_le d k
  go_enter Tryz.func92, Tryz.ntmps92
  go_wp2
  go_quiet (fail)
  go_wp2
  go_quiet (fail)
  go_wp2
  all_goals go_end0
  all_goals refine ⟨rfl, ?_, ?_⟩
  · exact scan_step_lf h hk (by assumption) _
  · exact ((((((Kept.refl _ _).drewN _).setCell (Or.inl (by simp)) _).setCell (Or.inl (by simp)) _).setCell (Or.inl (by simp)) _).setCell (Or.inl (by simp)) _)
  · exact scan_step_other h hk (by assumption) _
  · exact ((((Kept.refl _ _).drewN _).setCell (Or.inl (by simp)) _).setCell (Or.inl (by simp)) _)

/-- A place as a value. -/
def placeV (n : ByteArray) (l c : Int) : Value := .agg #[.string n, .int .i64 l, .int .i64 c]

set_option maxHeartbeats 400000 in
theorem place_any (b k : Nat) (n d : ByteArray) (w : World) (h : ScanAt w b n d k) :
    Calls Tryz.prog 93 #[.pointer (some ⟨b, 0, none⟩)] w fun e w' => e = .returned (.agg #[.string n, .int .i64 (lineAt d k), .int .i64 (colAt d k)]) ∧ Kept [] w w' := by
  obtain ⟨c0, c1, c2, c3, c4⟩ := h.cells
  have hb := lt_of_get h
  go_enter Tryz.func93, Tryz.ntmps93
  go_wp2
  go_region
  all_goals go_wp2
  exact bodyPost_ret (v := .agg #[.string n, .int .i64 (lineAt d k), .int .i64 (colAt d k)]) (by simp [results, Tryz.results93, go_sem]) rfl ⟨rfl, ((Kept.refl _ _).alloc _).drew⟩

end Go.Proofs.YtcipkfhpcbddiaaGreat

/- Package words, as functions of the data: no walk. -/
namespace Go.Proofs.YtcipkfhpcbddiaaGreat
open Go.RowKit

/-- Behind the blanks at k. -/
def skipTo (d : ByteArray) : Nat → Nat → Nat
  | 0, k => k
  | f + 1, k => if k < d.size ∧ blankB (byteAt d k) = true then skipTo d f (k + 1) else k
def skip (d : ByteArray) (k : Nat) : Nat := skipTo d (d.size - k) k

/-- Behind the printable bytes at k. -/
def wordTo (d : ByteArray) : Nat → Nat → Nat
  | 0, k => k
  | f + 1, k => if k < d.size ∧ blankB (byteAt d k) = false ∧ plainB (byteAt d k) = true then wordTo d f (k + 1) else k
def wordEnd (d : ByteArray) (k : Nat) : Nat := wordTo d (d.size - k) k

theorem skip_on (d : ByteArray) (k : Nat) (h : k < d.size) (hb : blankB (byteAt d k) = true) : skip d k = skip d (k + 1) := by
  unfold skip
  rw [show d.size - k = (d.size - (k + 1)) + 1 by omega]
  rw [skipTo, if_pos ⟨h, hb⟩]
theorem skip_off (d : ByteArray) (k : Nat) (h : ¬ (k < d.size ∧ blankB (byteAt d k) = true)) : skip d k = k := by
  unfold skip
  cases d.size - k with
  | zero => rfl
  | succ f => rw [skipTo, if_neg h]
theorem word_on (d : ByteArray) (k : Nat) (h : k < d.size) (hb : blankB (byteAt d k) = false) (hp : plainB (byteAt d k) = true) : wordEnd d k = wordEnd d (k + 1) := by
  unfold wordEnd
  rw [show d.size - k = (d.size - (k + 1)) + 1 by omega]
  rw [wordTo, if_pos ⟨h, hb, hp⟩]
theorem word_off (d : ByteArray) (k : Nat) (h : ¬ (k < d.size ∧ blankB (byteAt d k) = false ∧ plainB (byteAt d k) = true)) : wordEnd d k = k := by
  unfold wordEnd
  cases d.size - k with
  | zero => rfl
  | succ f => rw [wordTo, if_neg h]

theorem skipTo_le (d : ByteArray) (f k : Nat) : k ≤ skipTo d f k ∧ (k ≤ d.size → skipTo d f k ≤ d.size) := by
  induction f generalizing k with
  | zero => simp [skipTo]
  | succ f ih =>
    rw [skipTo]; split
    · have := ih (k + 1); omega
    · omega
theorem wordTo_le (d : ByteArray) (f k : Nat) : k ≤ wordTo d f k ∧ (k ≤ d.size → wordTo d f k ≤ d.size) := by
  induction f generalizing k with
  | zero => simp [wordTo]
  | succ f ih =>
    rw [wordTo]; split
    · have := ih (k + 1); omega
    · omega
theorem skip_le (d : ByteArray) (k : Nat) (h : k ≤ d.size) : k ≤ skip d k ∧ skip d k ≤ d.size := ⟨(skipTo_le d _ k).1, (skipTo_le d _ k).2 h⟩
theorem wordEnd_le (d : ByteArray) (k : Nat) (h : k ≤ d.size) : k ≤ wordEnd d k ∧ wordEnd d k ≤ d.size := ⟨(wordTo_le d _ k).1, (wordTo_le d _ k).2 h⟩

/-- An item, at a place of its file. -/
structure Item where
  text : ByteArray
  rule : Int
  fin : Bool
  pos : Nat

def itemV (n d : ByteArray) (i : Item) : Value := .agg #[.string i.text, .int .i64 i.rule, .bool i.fin, .string n, .int .i64 (lineAt d i.pos), .int .i64 (colAt d i.pos)]

/-- What 'run' tells at place k, and where it leaves the scanner. -/
def runF (d : ByteArray) (k : Nat) : Item × Nat :=
  let a := skip d k
  let z := wordEnd d a
  if z < d.size ∧ blankB (byteAt d z) = false then (⟨⟨#[]⟩, 1, false, z⟩, z)
  else if z ≤ a then (⟨⟨#[]⟩, 0, true, a⟩, z)
  else (⟨d.extract a z, 0, false, a⟩, z)

theorem runF_bad (d : ByteArray) (k j z : Nat) (hj : j = skip d k) (hw : wordEnd d z = wordEnd d j) (hz : z < d.size) (hb : blankB (byteAt d z) = false) (hp : plainB (byteAt d z) = false) :
    runF d k = (⟨⟨#[]⟩, 1, false, z⟩, z) := by
  have e : wordEnd d (skip d k) = z := by rw [← hj, ← hw]; exact word_off d z (fun h => by simp [hp] at h)
  simp only [runF, e]
  rw [if_pos ⟨hz, hb⟩]
theorem runF_end (d : ByteArray) (k j z : Nat) (hj : j = skip d k) (hw : wordEnd d z = wordEnd d j) (hs : ¬ (z < d.size ∧ blankB (byteAt d z) = false)) (hz : z ≤ j) :
    runF d k = (⟨⟨#[]⟩, 0, true, j⟩, z) := by
  have e : wordEnd d (skip d k) = z := by rw [← hj, ← hw]; exact word_off d z (fun h => hs ⟨h.1, h.2.1⟩)
  simp only [runF, e]
  rw [if_neg hs, ← hj, if_pos hz]
theorem runF_word (d : ByteArray) (k j z : Nat) (hj : j = skip d k) (hw : wordEnd d z = wordEnd d j) (hs : ¬ (z < d.size ∧ blankB (byteAt d z) = false)) (hz : j < z) :
    runF d k = (⟨d.extract j z, 0, false, j⟩, z) := by
  have e : wordEnd d (skip d k) = z := by rw [← hj, ← hw]; exact word_off d z (fun h => hs ⟨h.1, h.2.1⟩)
  simp only [runF, e]
  rw [if_neg hs, ← hj, if_neg (by omega)]

/-- The four ways at place z of a word. -/
theorem word_ways (d : ByteArray) (z : Nat) :
    (∃ h : z < d.size, blankB ((d[z]'h).toNat : Int) = false ∧ plainB ((d[z]'h).toNat : Int) = true ∧ wordEnd d (z + 1) = wordEnd d z) ∨
    (∃ h : z < d.size, blankB ((d[z]'h).toNat : Int) = false ∧ plainB ((d[z]'h).toNat : Int) = false) ∨
    (∃ h : z < d.size, blankB ((d[z]'h).toNat : Int) = true) ∨ (¬ z < d.size ∧ decide ((z : Int) < (d.size : Int)) = false) := by
  by_cases h : z < d.size
  · have e := byteAt_of d z h
    cases hb : blankB (byteAt d z) with
    | true => exact Or.inr (Or.inr (Or.inl ⟨h, e ▸ hb⟩))
    | false =>
      cases hp : plainB (byteAt d z) with
      | true => exact Or.inl ⟨h, e ▸ hb, e ▸ hp, (word_on d z h hb hp).symm⟩
      | false => exact Or.inr (Or.inl ⟨h, e ▸ hb, e ▸ hp⟩)
  · exact Or.inr (Or.inr (Or.inr ⟨h, by simp; omega⟩))

end Go.Proofs.YtcipkfhpcbddiaaGreat
