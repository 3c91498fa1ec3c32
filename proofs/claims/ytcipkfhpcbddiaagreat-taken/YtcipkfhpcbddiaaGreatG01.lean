/- Our texts: Base, Words1, WordsF, Words2, Words3, WordsG, Words4, Words5, Table1. -/
import Derived.Test.YtcipkfhpcbddiaaGreatChecked
import Derived.WalkKit
import Derived.WalkSpells
import Derived.WalkLawsBesides
import Derived.Deep.QuietTactic
import Derived.BigQuiet
import Derived.Deep.LoopGhost
import Derived.Deep.CutRange
import Derived.Deep.CutBlock
/- Our own base: what a call leaves of memory, said block by block. -/
namespace Go.Proofs.YtcipkfhpcbddiaaGreat
open Go.RowKit

/-- What is in no block of S, and was there, is as it was; the streams too; no block has gone. -/
structure Kept (S : List Nat) (w w' : World) : Prop where
  os : w'.os = w.os
  tape : w'.tape = w.tape
  output : w'.output = w.output
  size : w.heap.size ≤ w'.heap.size
  block : ∀ k, k < w.heap.size → k ∉ S → w'.heap[k]? = w.heap[k]?

theorem Kept.refl (S : List Nat) (w : World) : Kept S w w := ⟨rfl, rfl, rfl, Nat.le_refl _, fun _ _ _ => rfl⟩

theorem Kept.trans {S : List Nat} {a b c : World} (h : Kept S a b) (k : Kept S b c) : Kept S a c :=
  ⟨k.os.trans h.os, k.tape.trans h.tape, k.output.trans h.output, Nat.le_trans h.size k.size,
    fun i hi hs => (k.block i (Nat.lt_of_lt_of_le hi h.size) hs).trans (h.block i hi hs)⟩

theorem Kept.mono {S S' : List Nat} {w w' : World} (h : Kept S w w') (hS : ∀ k, k ∈ S → k < w.heap.size → k ∈ S') : Kept S' w w' :=
  ⟨h.os, h.tape, h.output, h.size, fun k hk hn => h.block k hk (fun hm => hn (hS k hm hk))⟩

theorem Kept.drew {S : List Nat} {a w : World} (h : Kept S a w) : Kept S a w.drew := ⟨h.os, h.tape, h.output, h.size, h.block⟩

theorem drewN_heap (w : World) (n : Nat) : (w.drewN n).heap = w.heap ∧ (w.drewN n).os = w.os ∧ (w.drewN n).tape = w.tape ∧ (w.drewN n).output = w.output := by
  refine ⟨?_, ?_, ?_, ?_⟩ <;> rfl

theorem Kept.drewN {S : List Nat} {a w : World} (h : Kept S a w) (n : Nat) : Kept S a (w.drewN n) := ⟨h.os, h.tape, h.output, h.size, h.block⟩

theorem Kept.alloc {S : List Nat} {a w : World} (h : Kept S a w) (o : Obj) : Kept S a (w.alloc o) :=
  h.trans ⟨rfl, rfl, rfl, by simp, fun k hk _ => Below.heap_alloc _ _ _ hk⟩

theorem Kept.setCell {S : List Nat} {a w : World} (h : Kept S a w) {p : Addr} (hp : p.block ∈ S ∨ a.heap.size ≤ p.block) (u : Value) : Kept S a (w.setCell p u) :=
  ⟨h.os, h.tape, h.output, by have := h.size; simp [World.setCell]; omega, fun k hk hs => by
    rw [Below.heap_setCell _ _ _ _ (by rintro rfl; exact hp.elim hs (fun hp => by omega))]; exact h.block k hk hs⟩

theorem Kept.below {w w' : World} (h : Kept [] w w') : Below w.heap.size w w' :=
  ⟨h.os, h.tape, h.output, h.size, fun k hk => h.block k hk (by simp)⟩

/-- A block of plain cells, none of them frozen: what its cells read as. -/
theorem cell_of {w : World} {b t : Nat} {c : Array Value} (h : w.heap[b]? = some (.cells c t (0, 0))) (i : Nat) : w.cell? ⟨b, i, none⟩ = c[i]? := by
  unfold World.cell?; simp [h]

theorem free_of {w : World} {b t : Nat} {c : Array Value} (h : w.heap[b]? = some (.cells c t (0, 0))) (i : Nat) : w.frozen? ⟨b, i, none⟩ = false := by
  unfold World.frozen?; simp [h]

theorem block_setCell {w : World} {b t : Nat} {c : Array Value} (h : w.heap[b]? = some (.cells c t (0, 0))) (i : Nat) (u : Value) :
    (w.setCell ⟨b, i, none⟩ u).heap[b]? = some (.cells (c.setIfInBounds i u) t (0, 0)) := by
  simp [World.setCell, Array.getElem?_modify, h]

theorem lt_of_get {w : World} {b : Nat} {o : Obj} (h : w.heap[b]? = some o) : b < w.heap.size := by
  rcases Nat.lt_or_ge b w.heap.size with h' | h'
  · exact h'
  · rw [Array.getElem?_eq_none h'] at h; simp at h

/-- A callee that leaves the world as it is, inside a region that draws, behind a region that drew. -/
theorem quiet2 {P : Program} {f : FuncId} {args : Array Value} {w : World} {q x : Nat} {v : Value} (h : Calls P f args (w.drewN (q + x)) fun e w' => e = .returned v ∧ w' = w.drewN (q + x)) :
    Calls P f args (w.drewN (q + x)) fun e w' => e = .returned v ∧ ∃ n, w' = w.drewN (q + n) :=
  h.mono fun _ _ hh => ⟨hh.1, x, hh.2⟩

theorem ret_bool {a b : Bool} (h : a = b) : Ending.returned (.bool a) = .returned (.bool b) := by rw [h]
theorem ret_int {k : IntKind} {a b : Int} (h : a = b) : Ending.returned (.int k a) = .returned (.int k b) := by rw [h]

theorem bytes_ext {a b : ByteArray} (h : a.toList = b.toList) : a = b := by
  rw [ByteArray.toList_eq, ByteArray.toList_eq] at h
  cases a; cases b
  simp only [Array.toList_inj] at h
  rw [h]
theorem str_true {a b : ByteArray} (h : (a.toList == b.toList) = true) : a = b := bytes_ext (by simpa using h)
theorem str_false {a b : ByteArray} (h : (a.toList == b.toList) = false) : a ≠ b := by rintro rfl; simp at h
theorem str_same {a b : ByteArray} (h : a = b) : (a.toList == b.toList) = true := by rw [h]; simp
theorem str_other {a b : ByteArray} (h : a ≠ b) : (a.toList == b.toList) = false := by
  cases e : (a.toList == b.toList)
  · rfl
  · exact absurd (str_true e) h

end Go.Proofs.YtcipkfhpcbddiaaGreat

/- Package words: the two kinds of bytes; a scanner's step and place. -/
namespace Go.Proofs.YtcipkfhpcbddiaaGreat
open Go.RowKit

def blankB (n : Int) : Bool := n == 32 || n == 9 || n == 10 || n == 12 || n == 13
def plainB (n : Int) : Bool := decide (33 ≤ n) && decide (n ≤ 126)

set_option maxHeartbeats 400000 in
theorem isBlank_any (n : Int) (w : World) :
    Calls Tryz.prog 91 #[.int .u8 n] w fun e w' => e = .returned (.bool (blankB n)) ∧ w' = w := by
  go_enter Tryz.func91, Tryz.ntmps91
  go_wp2
  all_goals go_ret
  all_goals (refine ⟨?_, rfl⟩; simp [blankB, *])

set_option maxHeartbeats 400000 in
theorem isPrintable_any (n : Int) (w : World) :
    Calls Tryz.prog 94 #[.int .u8 n] w fun e w' => e = .returned (.bool (plainB n)) ∧ w' = w := by
  go_enter Tryz.func94, Tryz.ntmps94
  go_wp2
  all_goals go_ret
  all_goals (refine ⟨?_, rfl⟩; first | (simp [plainB, *]; done) | (simp [plainB]; omega))

/-- The byte at place k, as Go's walk has it. -/
def byteAt (d : ByteArray) (k : Nat) : Int := if h : k < d.size then ((d[k]'h).toNat : Int) else 0
theorem byteAt_of (d : ByteArray) (k : Nat) (h : k < d.size) : byteAt d k = ((d[k]'h).toNat : Int) := by unfold byteAt; rw [dif_pos h]

/-- The line and the column of place k: both from 1 on; a line ends behind its byte 10. -/
def lineAt (d : ByteArray) : Nat → Int
  | 0 => 1
  | k + 1 => if byteAt d k == 10 then lineAt d k + 1 else lineAt d k
def colAt (d : ByteArray) : Nat → Int
  | 0 => 1
  | k + 1 => if byteAt d k == 10 then 1 else colAt d k + 1

theorem line_le (d : ByteArray) (k : Nat) : 1 ≤ lineAt d k ∧ lineAt d k ≤ k + 1 := by
  induction k with
  | zero => simp [lineAt]
  | succ k ih => simp only [lineAt]; split <;> omega
theorem col_le (d : ByteArray) (k : Nat) : 1 ≤ colAt d k ∧ colAt d k ≤ k + 1 := by
  induction k with
  | zero => simp [colAt]
  | succ k ih => simp only [colAt]; split <;> omega

def scanCells (n d : ByteArray) (k : Nat) : Array Value := #[.string n, .string d, .int .i64 k, .int .i64 (lineAt d k), .int .i64 (colAt d k)]
/-- Block b is a scanner of the file (n, d), ahead of place k. -/
def ScanAt (w : World) (b : Nat) (n d : ByteArray) (k : Nat) : Prop := w.heap[b]? = some (.cells (scanCells n d k) 152 (0, 0))

theorem ScanAt.cells {w : World} {b : Nat} {n d : ByteArray} {k : Nat} (h : ScanAt w b n d k) :
    w.cell? ⟨b, 0, none⟩ = some (.string n) ∧ w.cell? ⟨b, 1, none⟩ = some (.string d) ∧ w.cell? ⟨b, 2, none⟩ = some (.int .i64 k) ∧
    w.cell? ⟨b, 3, none⟩ = some (.int .i64 (lineAt d k)) ∧ w.cell? ⟨b, 4, none⟩ = some (.int .i64 (colAt d k)) := by
  refine ⟨?_, ?_, ?_, ?_, ?_⟩ <;> (rw [cell_of h]; rfl)

theorem ScanAt.kept {w w' : World} {b : Nat} {n d : ByteArray} {k : Nat} {S : List Nat} (h : ScanAt w b n d k) (hk : Kept S w w') (hb : b ∉ S) : ScanAt w' b n d k :=
  (hk.block b (lt_of_get h) hb).trans h

theorem Kept.get {S : List Nat} {w w' : World} (hk : Kept S w w') {b : Nat} {o : Obj} (h : w.heap[b]? = some o) (hb : b ∉ S) : w'.heap[b]? = some o :=
  (hk.block b (lt_of_get h) hb).trans h

theorem scan_step_lf {w : World} {b k : Nat} {n d : ByteArray} (h : ScanAt w b n d k) (hk : k < d.size) (hb : ((d[k].toNat : Int) == 10) = true) (m : Nat) :
    ScanAt (((((w.drewN m).setCell ⟨b, 3, none⟩ (.int .i64 (lineAt d k + 1))).setCell ⟨b, 4, none⟩ (.int .i64 0)).setCell ⟨b, 4, none⟩ (.int .i64 1)).setCell ⟨b, 2, none⟩ (.int .i64 ((k : Int) + 1))) b n d (k + 1) := by
  have h0 : (w.drewN m).heap[b]? = some (.cells (scanCells n d k) 152 (0, 0)) := h
  have h4 := block_setCell (block_setCell (block_setCell (block_setCell h0 3 (.int .i64 (lineAt d k + 1))) 4 (.int .i64 0)) 4 (.int .i64 1)) 2 (.int .i64 ((k : Int) + 1))
  unfold ScanAt
  rw [h4]
  simp [scanCells, lineAt, colAt, byteAt_of d k hk, hb]

theorem scan_step_other {w : World} {b k : Nat} {n d : ByteArray} (h : ScanAt w b n d k) (hk : k < d.size) (hb : ((d[k].toNat : Int) == 10) = false) (m : Nat) :
    ScanAt (((w.drewN m).setCell ⟨b, 4, none⟩ (.int .i64 (colAt d k + 1))).setCell ⟨b, 2, none⟩ (.int .i64 ((k : Int) + 1))) b n d (k + 1) := by
  have h0 : (w.drewN m).heap[b]? = some (.cells (scanCells n d k) 152 (0, 0)) := h
  have h4 := block_setCell (block_setCell h0 4 (.int .i64 (colAt d k + 1))) 2 (.int .i64 ((k : Int) + 1))
  unfold ScanAt
  rw [h4]
  simp [scanCells, lineAt, colAt, byteAt_of d k hk, hb]

set_option maxHeartbeats 400000 in
theorem step_any (b k : Nat) (n d : ByteArray) (w : World) (hd : d.size ≤ 1024) (hk : k < d.size) (h : ScanAt w b n d k) :
    Calls Tryz.prog 92 #[.pointer (some ⟨b, 0, none⟩)] w fun e w' => e = .returned (.tuple #[]) ∧ ScanAt w' b n d (k + 1) ∧ Kept [b] w w' := by
  obtain ⟨c0, c1, c2, c3, c4⟩ := h.cells
  have f2 := free_of h 2
  have f3 := free_of h 3
  have f4 := free_of h 4
  have bl := line_le d k
  have bc := col_le d k
  go_enter Tryz.func92, Tryz.ntmps92
  go_wp2
  go_quiet (fail)
  go_wp2
  go_quiet (fail)
  go_wp2
  all_goals go_end0
  all_goals refine ⟨rfl, ?_, ?_⟩
  · exact scan_step_lf h hk (by assumption) _
  · exact ((((((Kept.refl _ _).drewN _).setCell (Or.inl (by simp)) _).setCell (Or.inl (by simp)) _).setCell (Or.inl (by simp)) _).setCell (Or.inl (by simp)) _)
  · exact scan_step_other h hk (by assumption) _
  · exact ((((Kept.refl _ _).drewN _).setCell (Or.inl (by simp)) _).setCell (Or.inl (by simp)) _)

/-- A place as a value. -/
def placeV (n : ByteArray) (l c : Int) : Value := .agg #[.string n, .int .i64 l, .int .i64 c]

set_option maxHeartbeats 400000 in
theorem place_any (b k : Nat) (n d : ByteArray) (w : World) (h : ScanAt w b n d k) :
    Calls Tryz.prog 93 #[.pointer (some ⟨b, 0, none⟩)] w fun e w' => e = .returned (.agg #[.string n, .int .i64 (lineAt d k), .int .i64 (colAt d k)]) ∧ Kept [] w w' := by
  obtain ⟨c0, c1, c2, c3, c4⟩ := h.cells
  have hb := lt_of_get h
  go_enter Tryz.func93, Tryz.ntmps93
  go_wp2
  go_region
  all_goals go_wp2
  exact bodyPost_ret (v := .agg #[.string n, .int .i64 (lineAt d k), .int .i64 (colAt d k)]) (by simp [results, Tryz.results93, go_sem]) rfl ⟨rfl, ((Kept.refl _ _).alloc _).drew⟩

end Go.Proofs.YtcipkfhpcbddiaaGreat

/- Package words, as functions of the data: no walk. -/
namespace Go.Proofs.YtcipkfhpcbddiaaGreat
open Go.RowKit

/-- Behind the blanks at k. -/
def skipTo (d : ByteArray) : Nat → Nat → Nat
  | 0, k => k
  | f + 1, k => if k < d.size ∧ blankB (byteAt d k) = true then skipTo d f (k + 1) else k
def skip (d : ByteArray) (k : Nat) : Nat := skipTo d (d.size - k) k

/-- Behind the printable bytes at k. -/
def wordTo (d : ByteArray) : Nat → Nat → Nat
  | 0, k => k
  | f + 1, k => if k < d.size ∧ blankB (byteAt d k) = false ∧ plainB (byteAt d k) = true then wordTo d f (k + 1) else k
def wordEnd (d : ByteArray) (k : Nat) : Nat := wordTo d (d.size - k) k

theorem skip_on (d : ByteArray) (k : Nat) (h : k < d.size) (hb : blankB (byteAt d k) = true) : skip d k = skip d (k + 1) := by
  unfold skip
  rw [show d.size - k = (d.size - (k + 1)) + 1 by omega]
  rw [skipTo, if_pos ⟨h, hb⟩]
theorem skip_off (d : ByteArray) (k : Nat) (h : ¬ (k < d.size ∧ blankB (byteAt d k) = true)) : skip d k = k := by
  unfold skip
  cases d.size - k with
  | zero => rfl
  | succ f => rw [skipTo, if_neg h]
theorem word_on (d : ByteArray) (k : Nat) (h : k < d.size) (hb : blankB (byteAt d k) = false) (hp : plainB (byteAt d k) = true) : wordEnd d k = wordEnd d (k + 1) := by
  unfold wordEnd
  rw [show d.size - k = (d.size - (k + 1)) + 1 by omega]
  rw [wordTo, if_pos ⟨h, hb, hp⟩]
theorem word_off (d : ByteArray) (k : Nat) (h : ¬ (k < d.size ∧ blankB (byteAt d k) = false ∧ plainB (byteAt d k) = true)) : wordEnd d k = k := by
  unfold wordEnd
  cases d.size - k with
  | zero => rfl
  | succ f => rw [wordTo, if_neg h]

theorem skipTo_le (d : ByteArray) (f k : Nat) : k ≤ skipTo d f k ∧ (k ≤ d.size → skipTo d f k ≤ d.size) := by
  induction f generalizing k with
  | zero => simp [skipTo]
  | succ f ih =>
    rw [skipTo]; split
    · have := ih (k + 1); omega
    · omega
theorem wordTo_le (d : ByteArray) (f k : Nat) : k ≤ wordTo d f k ∧ (k ≤ d.size → wordTo d f k ≤ d.size) := by
  induction f generalizing k with
  | zero => simp [wordTo]
  | succ f ih =>
    rw [wordTo]; split
    · have := ih (k + 1); omega
    · omega
theorem skip_le (d : ByteArray) (k : Nat) (h : k ≤ d.size) : k ≤ skip d k ∧ skip d k ≤ d.size := ⟨(skipTo_le d _ k).1, (skipTo_le d _ k).2 h⟩
theorem wordEnd_le (d : ByteArray) (k : Nat) (h : k ≤ d.size) : k ≤ wordEnd d k ∧ wordEnd d k ≤ d.size := ⟨(wordTo_le d _ k).1, (wordTo_le d _ k).2 h⟩

/-- An item, at a place of its file. -/
structure Item where
  text : ByteArray
  rule : Int
  fin : Bool
  pos : Nat

def itemV (n d : ByteArray) (i : Item) : Value := .agg #[.string i.text, .int .i64 i.rule, .bool i.fin, .string n, .int .i64 (lineAt d i.pos), .int .i64 (colAt d i.pos)]

/-- What 'run' tells at place k, and where it leaves the scanner. -/
def runF (d : ByteArray) (k : Nat) : Item × Nat :=
  let a := skip d k
  let z := wordEnd d a
  if z < d.size ∧ blankB (byteAt d z) = false then (⟨⟨#[]⟩, 1, false, z⟩, z)
  else if z ≤ a then (⟨⟨#[]⟩, 0, true, a⟩, z)
  else (⟨d.extract a z, 0, false, a⟩, z)

theorem runF_bad (d : ByteArray) (k j z : Nat) (hj : j = skip d k) (hw : wordEnd d z = wordEnd d j) (hz : z < d.size) (hb : blankB (byteAt d z) = false) (hp : plainB (byteAt d z) = false) :
    runF d k = (⟨⟨#[]⟩, 1, false, z⟩, z) := by
  have e : wordEnd d (skip d k) = z := by rw [← hj, ← hw]; exact word_off d z (fun h => by simp [hp] at h)
  simp only [runF, e]
  rw [if_pos ⟨hz, hb⟩]
theorem runF_end (d : ByteArray) (k j z : Nat) (hj : j = skip d k) (hw : wordEnd d z = wordEnd d j) (hs : ¬ (z < d.size ∧ blankB (byteAt d z) = false)) (hz : z ≤ j) :
    runF d k = (⟨⟨#[]⟩, 0, true, j⟩, z) := by
  have e : wordEnd d (skip d k) = z := by rw [← hj, ← hw]; exact word_off d z (fun h => hs ⟨h.1, h.2.1⟩)
  simp only [runF, e]
  rw [if_neg hs, ← hj, if_pos hz]
theorem runF_word (d : ByteArray) (k j z : Nat) (hj : j = skip d k) (hw : wordEnd d z = wordEnd d j) (hs : ¬ (z < d.size ∧ blankB (byteAt d z) = false)) (hz : j < z) :
    runF d k = (⟨d.extract j z, 0, false, j⟩, z) := by
  have e : wordEnd d (skip d k) = z := by rw [← hj, ← hw]; exact word_off d z (fun h => hs ⟨h.1, h.2.1⟩)
  simp only [runF, e]
  rw [if_neg hs, ← hj, if_neg (by omega)]

/-- The four ways at place z of a word. -/
theorem word_ways (d : ByteArray) (z : Nat) :
    (∃ h : z < d.size, blankB ((d[z]'h).toNat : Int) = false ∧ plainB ((d[z]'h).toNat : Int) = true ∧ wordEnd d (z + 1) = wordEnd d z) ∨
    (∃ h : z < d.size, blankB ((d[z]'h).toNat : Int) = false ∧ plainB ((d[z]'h).toNat : Int) = false) ∨
    (∃ h : z < d.size, blankB ((d[z]'h).toNat : Int) = true) ∨ (¬ z < d.size ∧ decide ((z : Int) < (d.size : Int)) = false) := by
  by_cases h : z < d.size
  · have e := byteAt_of d z h
    cases hb : blankB (byteAt d z) with
    | true => exact Or.inr (Or.inr (Or.inl ⟨h, e ▸ hb⟩))
    | false =>
      cases hp : plainB (byteAt d z) with
      | true => exact Or.inl ⟨h, e ▸ hb, e ▸ hp, (word_on d z h hb hp).symm⟩
      | false => exact Or.inr (Or.inl ⟨h, e ▸ hb, e ▸ hp⟩)
  · exact Or.inr (Or.inr (Or.inr ⟨h, by simp; omega⟩))

end Go.Proofs.YtcipkfhpcbddiaaGreat

/- Package words: 'run'. -/
namespace Go.Proofs.YtcipkfhpcbddiaaGreat
open Go.RowKit

def zeroItem : Array Value := #[.string ⟨#[]⟩, .int .i64 0, .bool false, .string ⟨#[]⟩, .int .i64 0, .int .i64 0]

theorem build_rule (w : World) (r l c : Int) (n : ByteArray) : (Instr.build 133 #[(1, .int .i64 r), (3, .agg #[.string n, .int .i64 l, .int .i64 c])]).run Tryz.prog w = .ok (.agg #[.string ⟨#[]⟩, .int .i64 r, .bool false, .string n, .int .i64 l, .int .i64 c]) w :=
  run_build w 133 _ _ (by kernel_rfl)
theorem build_fin (w : World) (e : Bool) (l c : Int) (n : ByteArray) : (Instr.build 133 #[(2, .bool e), (3, .agg #[.string n, .int .i64 l, .int .i64 c])]).run Tryz.prog w = .ok (.agg #[.string ⟨#[]⟩, .int .i64 0, .bool e, .string n, .int .i64 l, .int .i64 c]) w :=
  run_build w 133 _ _ (by kernel_rfl)
theorem build_text (w : World) (t : ByteArray) (l c : Int) (n : ByteArray) : (Instr.build 133 #[(0, .string t), (3, .agg #[.string n, .int .i64 l, .int .i64 c])]).run Tryz.prog w = .ok (.agg #[.string t, .int .i64 0, .bool false, .string n, .int .i64 l, .int .i64 c]) w :=
  run_build w 133 _ _ (by kernel_rfl)
attribute [local go_sem] build_rule build_fin build_text

theorem cells_zero {w : World} {r : Nat} (h : w.heap[r]? = some (.cells zeroItem 133 (0, 0))) :
    w.cell? ⟨r, 0, none⟩ = some (.string ⟨#[]⟩) ∧ w.cell? ⟨r, 1, none⟩ = some (.int .i64 0) ∧ w.cell? ⟨r, 2, none⟩ = some (.bool false) ∧
    w.cell? ⟨r, 3, none⟩ = some (.string ⟨#[]⟩) ∧ w.cell? ⟨r, 4, none⟩ = some (.int .i64 0) ∧ w.cell? ⟨r, 5, none⟩ = some (.int .i64 0) := by
  refine ⟨?_, ?_, ?_, ?_, ?_, ?_⟩ <;> (rw [cell_of h]; rfl)

theorem six_scan {w : World} {b r k : Nat} {n d : ByteArray} (h : ScanAt w b n d k) (hne : b ≠ r) (a0 a1 a2 a3 a4 a5 : Value) :
    ScanAt ((((((w.setCell ⟨r, 0, none⟩ a0).setCell ⟨r, 1, none⟩ a1).setCell ⟨r, 2, none⟩ a2).setCell ⟨r, 3, none⟩ a3).setCell ⟨r, 4, none⟩ a4).setCell ⟨r, 5, none⟩ a5) b n d k := by
  unfold ScanAt
  rw [Below.heap_setCell _ _ _ _ hne, Below.heap_setCell _ _ _ _ hne, Below.heap_setCell _ _ _ _ hne, Below.heap_setCell _ _ _ _ hne, Below.heap_setCell _ _ _ _ hne, Below.heap_setCell _ _ _ _ hne]
  exact h
theorem six_kept {S : List Nat} {w w3 : World} {r : Nat} (h : Kept S w w3) (hr : w.heap.size ≤ r) (a0 a1 a2 a3 a4 a5 : Value) :
    Kept S w ((((((w3.setCell ⟨r, 0, none⟩ a0).setCell ⟨r, 1, none⟩ a1).setCell ⟨r, 2, none⟩ a2).setCell ⟨r, 3, none⟩ a3).setCell ⟨r, 4, none⟩ a4).setCell ⟨r, 5, none⟩ a5) :=
  (((((h.setCell (Or.inr hr) _).setCell (Or.inr hr) _).setCell (Or.inr hr) _).setCell (Or.inr hr) _).setCell (Or.inr hr) _).setCell (Or.inr hr) _

set_option maxHeartbeats 2000000 in
set_option maxRecDepth 100000 in
theorem run_any (b k : Nat) (n d : ByteArray) (w : World) (hd : d.size ≤ 1024) (hk : k ≤ d.size) (h : ScanAt w b n d k) :
    Calls Tryz.prog 74 #[.pointer (some ⟨b, 0, none⟩)] w fun e w' => e = .returned (itemV n d (runF d k).1) ∧ ScanAt w' b n d (runF d k).2 ∧ Kept [b] w w' := by
  have hbw := lt_of_get h
  go_enter Tryz.func74, Tryz.ntmps74
  go_upto_block 0 with fail
  go_cut [] from 5 (fun wc => ∃ j, k ≤ j ∧ j ≤ d.size ∧ Hid (j = skip d k) ∧ ScanAt wc b n d j ∧ wc.heap[w.heap.size]? = some (.cells zeroItem 133 (0, 0)) ∧ Kept [b] w wc)
  case first =>
    go_wp2_with fail
    go_loopg [] (d.size - k) (fun g wr => ∃ j, k ≤ j ∧ j ≤ d.size ∧ g = d.size - j ∧ Hid (skip d j = skip d k) ∧ ScanAt wr b n d j ∧ wr.heap[w.heap.size]? = some (.cells zeroItem 133 (0, 0)) ∧ Kept [b] w wr)
    case atStart => exact ⟨k, Nat.le_refl _, hk, rfl, rfl, ScanAt.kept h ((Kept.refl [] w).alloc _) (by simp), heap_alloc_new _ _, (Kept.refl _ _).alloc _⟩
    case round =>
      obtain ⟨j, hkj, hj, hg, hs, h1, hr, hkp⟩ := hrel
      obtain ⟨c0, c1, c2, c3, c4⟩ := h1.cells
      have hRw := lt_of_get hr
      have hbr := lt_of_get h1
      have hRb : w.heap.size ∉ [b] := by simp; omega
      by_cases hc : j < d.size ∧ blankB (byteAt d j) = true
      · obtain ⟨hlt, hbl0⟩ := hc
        have hbl := hbl0
        rw [byteAt_of d j hlt] at hbl
        have hs' : Hid (skip d (j + 1) = skip d k) := (skip_on d j hlt hbl0).symm.trans hs.out
        clear hbl0
        go_wp2_with fail
        go_quiet ((go_at_call 91; exact Calls.quiet_of_same (isBlank_any _ _)))
        go_wp2_with fail
        refine (step_any b j n d _ hd hlt (by exact h1)).mono ?_
        rintro e w1 ⟨rfl, h2, hk2⟩
        go_wp2
        go_roundg (d.size - (j + 1))
        case measure => omega
        case rel => exact ⟨j + 1, by omega, by omega, rfl, hs', h2, hk2.get (by exact hr) hRb, (hkp.drewN nq).trans hk2⟩
      · have hja : Hid (j = skip d k) := (hs.out.symm.trans (skip_off d j hc)).symm
        have hdec : (j < d.size ∧ ∃ h : j < d.size, blankB ((d[j]'h).toNat : Int) = false) ∨ (¬ j < d.size ∧ decide ((j : Int) < (d.size : Int)) = false) := by
          by_cases hlt : j < d.size
          · refine Or.inl ⟨hlt, hlt, ?_⟩
            rw [← byteAt_of d j hlt]; simpa using fun h => hc ⟨hlt, h⟩
          · exact Or.inr ⟨hlt, by simp; omega⟩
        clear hc hs
        rcases hdec with ⟨hlt, hlt', hbl⟩ | ⟨hlt, hbl⟩
        all_goals
          go_wp2_with fail
          go_quiet ((go_at_call 91; exact Calls.quiet_of_same (isBlank_any _ _)))
          go_wp2_with fail
          go_meet
          case rel => exact ⟨j, hkj, hj, hja, by exact h1, by exact hr, hkp.drewN _⟩
  case rest =>
    obtain ⟨j, hkj, hj, HJ, h1, hr, hkp⟩ := hcut
    have hRw := lt_of_get hr
    have hbr := lt_of_get h1
    have hRb : w.heap.size ∉ [b] := by simp; omega
    go_wp2_with fail
    refine (place_any b j n d _ (by exact h1)).mono ?_
    rintro e w2 ⟨rfl, hk2⟩
    have h2 : ScanAt w2 b n d j := ScanAt.kept (by exact h1) hk2 (by simp)
    have hr2 := hk2.get (by exact hr) (by simp)
    have hkp2 := hkp.trans (hk2.mono (by simp))
    have hb2 := lt_of_get h2
    have hR2 := lt_of_get hr2
    have hw2 := hkp2.size
    clear h1 hr hkp hk2 hRw hbr
    obtain ⟨c0, c1, c2, c3, c4⟩ := h2.cells
    go_wp2
    go_loopg [] (d.size - j) (fun g wr => ∃ z, j ≤ z ∧ z ≤ d.size ∧ g = d.size - z ∧ Hid (wordEnd d z = wordEnd d j) ∧ ScanAt wr b n d z ∧ wr.heap[w.heap.size]? = some (.cells zeroItem 133 (0, 0)) ∧
      wr.heap[w2.heap.size]? = some (.cells #[.string n, .int .i64 (lineAt d j), .int .i64 (colAt d j)] 39 (0, 0)) ∧ Kept [b] w wr)
    case atStart => exact ⟨j, Nat.le_refl _, hj, rfl, rfl, h2.kept ((Kept.refl [] w2).alloc _) (by simp), ((Kept.refl [] w2).alloc _).get hr2 (by simp), heap_alloc_new _ _, hkp2.alloc _⟩
    case round =>
      clear c0 c1 c2 c3 c4
      obtain ⟨z, hjz, hz, hg, hs, h1, hr, ha, hkp⟩ := hrel
      obtain ⟨c0, c1, c2, c3, c4⟩ := h1.cells
      have hRw := lt_of_get hr
      have hbr := lt_of_get h1
      have haw := lt_of_get ha
      have e0 : wr.cell? ⟨w2.heap.size, 0, none⟩ = some (.string n) := by rw [cell_of ha]; rfl
      have e1 : wr.cell? ⟨w2.heap.size, 1, none⟩ = some (.int .i64 (lineAt d j)) := by rw [cell_of ha]; rfl
      have e2 : wr.cell? ⟨w2.heap.size, 2, none⟩ = some (.int .i64 (colAt d j)) := by rw [cell_of ha]; rfl
      rcases word_ways d z with ⟨hlz, hbl, hpl, hwz⟩ | ⟨hlz, hbl, hpl⟩ | ⟨hlz, hbl⟩ | ⟨hlz, hbl⟩
      · have HS : Hid (wordEnd d (z + 1) = wordEnd d j) := hwz.trans hs.out
        clear hs hwz
        go_wp2_with fail
        go_quiet ((go_at_call 91; exact Calls.quiet_of_same (isBlank_any _ _)))
        go_wp2_with fail
        go_quiet ((go_at_call 94; exact quiet2 (isPrintable_any _ _)))
        go_wp2_with fail
        refine (step_any b z n d _ hd hlz (by exact h1)).mono ?_
        rintro e w3 ⟨rfl, h3, hk3⟩
        go_wp2
        go_roundg (d.size - (z + 1))
        case measure => omega
        case rel => exact ⟨z + 1, by omega, by omega, rfl, HS, h3, hk3.get (by exact hr) hRb, hk3.get (by exact ha) (by simp; omega), ((hkp.drewN _).trans hk3)⟩
      · have HF : Hid (runF d k = (⟨⟨#[]⟩, 1, false, z⟩, z)) := runF_bad d k j z HJ.out hs.out hlz (by rw [byteAt_of d z hlz]; exact hbl) (by rw [byteAt_of d z hlz]; exact hpl)
        clear hs
        go_wp2_with fail
        go_quiet ((go_at_call 91; exact Calls.quiet_of_same (isBlank_any _ _)))
        go_wp2_with fail
        go_quiet ((go_at_call 94; exact quiet2 (isPrintable_any _ _)))
        go_wp2_with fail
        refine (place_any b z n d _ (by exact h1)).mono ?_
        rintro e w3 ⟨rfl, hk3⟩
        have h3 : ScanAt w3 b n d z := ScanAt.kept (by exact h1) hk3 (by simp)
        have hr3 := hk3.get (by exact hr) (by simp)
        have hkp3 := (hkp.drewN _).trans (hk3.mono (by simp))
        clear c0 c1 c2 c3 c4 h1 hr hkp hk3 hRw hbr ha haw e0 e1 e2
        obtain ⟨z0, z1, z2, z3, z4, z5⟩ := cells_zero hr3
        have y := free_of hr3
        go_wp2
        exact bodyPost_ret (v := itemV n d ⟨⟨#[]⟩, 1, false, z⟩) (by simp [results, Tryz.results74, go_sem, itemV, z0, z1, z2, z3, z4, z5]) rfl
          (by rw [HF.out]; exact ⟨rfl, six_scan h3 (by omega) _ _ _ _ _ _, six_kept hkp3 (Nat.le_refl _) _ _ _ _ _ _⟩)
      all_goals
        have HZ : ¬ (z < d.size ∧ blankB (byteAt d z) = false) := by
          rintro ⟨hl1, hb1⟩
          first
            | (rw [byteAt_of d z hl1, hbl] at hb1; cases hb1)
            | exact hlz hl1
        obtain ⟨z0, z1, z2, z3, z4, z5⟩ := cells_zero hr
        have y := free_of hr
        by_cases hjl : j < z
        · have HF : Hid (runF d k = (⟨d.extract j z, 0, false, j⟩, z)) := runF_word d k j z HJ.out hs.out HZ hjl
          have hdc : decide ((z : Int) ≤ (j : Int)) = false := by simp; omega
          clear hs HZ
          go_wp2_with fail
          go_quiet ((go_at_call 91; exact Calls.quiet_of_same (isBlank_any _ _)))
          go_wp2_with fail
          go_quiet (fail)
          go_wp2_with fail
          go_region
          all_goals go_wp2
          exact bodyPost_ret (v := itemV n d ⟨d.extract j z, 0, false, j⟩) (by simp [results, Tryz.results74, go_sem, itemV, z0, z1, z2, z3, z4, z5]) rfl
            (by rw [HF.out]; exact ⟨rfl, six_scan (by exact h1) (by omega) _ _ _ _ _ _, six_kept (hkp.drewN _) (Nat.le_refl _) _ _ _ _ _ _⟩)
        · have HF : Hid (runF d k = (⟨⟨#[]⟩, 0, true, j⟩, z)) := runF_end d k j z HJ.out hs.out HZ (by omega)
          clear hs HZ
          go_wp2_with fail
          go_quiet ((go_at_call 91; exact Calls.quiet_of_same (isBlank_any _ _)))
          go_wp2_with fail
          go_quiet (fail)
          go_wp2
          exact bodyPost_ret (v := itemV n d ⟨⟨#[]⟩, 0, true, j⟩) (by simp [results, Tryz.results74, go_sem, itemV, z0, z1, z2, z3, z4, z5]) rfl
            (by rw [HF.out]; exact ⟨rfl, six_scan (by exact h1) (by omega) _ _ _ _ _ _, six_kept (hkp.drewN _) (Nat.le_refl _) _ _ _ _ _ _⟩)

end Go.Proofs.YtcipkfhpcbddiaaGreat

/- Package words: IsWord, the two looks into a word, comment, Next. -/
namespace Go.Proofs.YtcipkfhpcbddiaaGreat
open Go.RowKit

def isWordF (i : Item) : Bool := i.rule == 0 && !i.fin

set_option maxHeartbeats 400000 in
theorem isWord_any (t n : ByteArray) (r l c : Int) (f : Bool) (w : World) :
    Calls Tryz.prog 61 #[.agg #[.string t, .int .i64 r, .bool f, .string n, .int .i64 l, .int .i64 c]] w fun e w' => e = .returned (.bool (r == 0 && !f)) ∧ Kept [] w w' := by
  cases hr : (r == 0)
  · go_enter Tryz.func61, Tryz.ntmps61
    go_wp2
    go_ret
    exact ⟨ret_bool (by simp), (Kept.refl _ _).alloc _⟩
  · go_enter Tryz.func61, Tryz.ntmps61
    go_wp2
    go_ret
    exact ⟨ret_bool (by simp), (Kept.refl _ _).alloc _⟩

/-- Does the text hold a dollar sign? -/
def dollarF (s : ByteArray) : Bool := (List.range s.size).any (fun i => byteAt s i == 36)
/-- Does it hold '$(' or '$)'? -/
def bracketF (s : ByteArray) : Bool := (List.range s.size).any (fun i => decide (1 ≤ i) && (byteAt s (i - 1) == 36) && ((byteAt s i == 40) || (byteAt s i == 41)))

theorem any_yes {n : Nat} {p : Nat → Bool} (i : Nat) (h : i < n) (hp : p i = true) : (List.range n).any p = true := by
  rw [List.any_eq_true]; exact ⟨i, by simpa using h, hp⟩
theorem any_no {n : Nat} {p : Nat → Bool} (h : ∀ i, i < n → p i = false) : (List.range n).any p = false := by
  rw [List.any_eq_false]; intro i hi; simp [h i (by simpa using hi)]

set_option maxHeartbeats 400000 in
theorem dollar_any (s : ByteArray) (w : World) (hs : s.size ≤ 1073741824) :
    Calls Tryz.prog 96 #[.string s] w fun e w' => e = .returned (.bool (dollarF s)) ∧ w' = w := by
  go_enter Tryz.func96, Tryz.ntmps96
  go_wp2
  go_loopg [3] s.size (fun g i wr => ∃ k : Nat, k ≤ s.size ∧ g = s.size - k ∧ i = .int .i64 k ∧ Hid (∀ i, i < k → (byteAt s i == 36) = false) ∧ wr = w)
  case atStart => exact ⟨0, by omega, by omega, rfl, fun i h => by omega, rfl⟩
  case round =>
    obtain ⟨k, hk, hg, rfl, hall, rfl⟩ := hrel
    by_cases hlt : k < s.size
    · cases hb : ((s[k].toNat : Int) == 36)
      · go_wp2
        go_roundg (s.size - (k + 1))
        case measure => omega
        case rel =>
          refine ⟨k + 1, by omega, rfl, by go_num, ?_, rfl⟩
          intro i hi
          by_cases e : i = k
          · subst e; rw [byteAt_of s i hlt]; exact hb
          · exact hall.out i (by omega)
      · have HY : Hid (dollarF s = true) := any_yes k hlt (by rw [byteAt_of s k hlt]; exact hb)
        go_wp2
        go_ret
        exact ⟨ret_bool HY.out.symm, rfl⟩
    · have HY : Hid (dollarF s = false) := any_no (fun i hi => hall.out i (by omega))
      go_wp2
      go_ret
      exact ⟨ret_bool HY.out.symm, rfl⟩

set_option maxHeartbeats 400000 in
theorem bracket_any (s : ByteArray) (w : World) (hs : s.size ≤ 1073741824) :
    Calls Tryz.prog 95 #[.string s] w fun e w' => e = .returned (.bool (bracketF s)) ∧ w' = w := by
  go_enter Tryz.func95, Tryz.ntmps95
  go_wp2
  go_loopg [3] (s.size - 1) (fun g i wr => ∃ k : Nat, 1 ≤ k ∧ (k ≤ s.size ∨ k = 1) ∧ g = s.size - k ∧ i = .int .i64 k ∧ Hid (∀ i, i < k → 1 ≤ i → ((byteAt s (i - 1) == 36) && ((byteAt s i == 40) || (byteAt s i == 41))) = false) ∧ wr = w)
  case atStart => exact ⟨1, by omega, by omega, rfl, rfl, fun i h h' => by omega, rfl⟩
  case round =>
    obtain ⟨k, hk1, hk, hg, rfl, hall, rfl⟩ := hrel
    by_cases hlt : k < s.size
    · have hlt1 : k - 1 < s.size := by omega
      have hq : ∀ b : Bool, (((s[k - 1].toNat : Int) == 36) && (((s[k].toNat : Int) == 40) || ((s[k].toNat : Int) == 41))) = b → ((byteAt s (k - 1) == 36) && ((byteAt s k == 40) || (byteAt s k == 41))) = b :=
        fun b h => by rw [byteAt_of s k hlt, byteAt_of s (k - 1) hlt1]; exact h
      have HQ : Hid (∀ b : Bool, (((s[k - 1].toNat : Int) == 36) && (((s[k].toNat : Int) == 40) || ((s[k].toNat : Int) == 41))) = b → ((byteAt s (k - 1) == 36) && ((byteAt s k == 40) || (byteAt s k == 41))) = b) := hq
      clear hq
      go_wp2
      all_goals first
        | (go_ret
           refine ⟨ret_bool ?_, rfl⟩
           refine (any_yes (p := fun i => decide (1 ≤ i) && (byteAt s (i - 1) == 36) && ((byteAt s i == 40) || (byteAt s i == 41))) k hlt ?_).symm
           have := HQ.out true (by simp_all)
           simp only [Bool.and_assoc, this]; simp [hk1])
        | (go_roundg (s.size - (k + 1))
           case measure => omega
           case rel =>
             refine ⟨k + 1, by omega, by omega, rfl, by go_num, ?_, rfl⟩
             intro i hi h1
             by_cases e : i = k
             · subst e; exact HQ.out false (by simp_all)
             · exact hall.out i (by omega) h1)
    · have HY : Hid (bracketF s = false) := any_no (fun i hi => by
        by_cases h1 : 1 ≤ i
        · have := hall.out i (by omega) h1; simp only [Bool.and_assoc, this]; simp
        · simp [h1])
      go_wp2
      go_ret
      exact ⟨ret_bool HY.out.symm, rfl⟩

end Go.Proofs.YtcipkfhpcbddiaaGreat

/- Package words, as functions: comment, Next. -/
namespace Go.Proofs.YtcipkfhpcbddiaaGreat
open Go.RowKit

theorem runF_le (d : ByteArray) (k : Nat) (h : k ≤ d.size) : k ≤ (runF d k).2 ∧ (runF d k).2 ≤ d.size ∧ (isWordF (runF d k).1 = true → k < (runF d k).2) := by
  have a := skip_le d k h
  have b := wordEnd_le d (skip d k) a.2
  unfold runF
  simp only
  split
  · exact ⟨by omega, b.2, by simp [isWordF]⟩
  · split
    · exact ⟨by omega, b.2, by simp [isWordF]⟩
    · exact ⟨by simp only; omega, b.2, fun _ => by simp only; omega⟩

/-- Behind a comment: its last item, and the place; the fuel: more than the bytes that are left. -/
def commentTo (d : ByteArray) : Nat → Nat → Item × Nat
  | 0, k => (⟨⟨#[]⟩, 3, false, k⟩, k)
  | f + 1, k =>
    if isWordF (runF d k).1 = true ∧ ¬ (runF d k).1.text.toList = [36, 41] then
      if bracketF (runF d k).1.text = true then (⟨⟨#[]⟩, 2, false, (runF d k).1.pos⟩, (runF d k).2) else commentTo d f (runF d k).2
    else if (runF d k).1.fin = true then (⟨⟨#[]⟩, 3, false, (runF d k).1.pos⟩, (runF d k).2) else runF d k
def commentF (d : ByteArray) (k : Nat) : Item × Nat := commentTo d (d.size - k + 1) k

/-- More fuel changes nothing. -/
theorem commentTo_fuel (d : ByteArray) (f k : Nat) (hk : k ≤ d.size) (hf : d.size - k + 1 ≤ f) : commentTo d f k = commentF d k := by
  unfold commentF
  suffices h : ∀ f g k, k ≤ d.size → d.size - k + 1 ≤ f → d.size - k + 1 ≤ g → commentTo d f k = commentTo d g k from h _ _ _ hk hf (Nat.le_refl _)
  clear hf hk f k
  intro f
  induction f with
  | zero => intro g k _ h; omega
  | succ f ih =>
    intro g k hk hf hg
    cases g with
    | zero => omega
    | succ g =>
      rw [commentTo, commentTo]
      split
      · next h =>
        have hl := runF_le d k hk
        have hl2 := hl.2.2 h.1
        split
        · rfl
        · exact ih g (runF d k).2 hl.2.1 (by omega) (by omega)
      · rfl

theorem comment_on (d : ByteArray) (k : Nat) (hk : k ≤ d.size) (h1 : isWordF (runF d k).1 = true) (h2 : ((runF d k).1.text.toList == [36, 41]) = false) (h3 : bracketF (runF d k).1.text = false) : commentF d k = commentF d (runF d k).2 := by
  have hl := runF_le d k hk
  have hl2 := hl.2.2 h1
  conv => lhs; unfold commentF
  rw [commentTo, if_pos ⟨h1, by simpa using h2⟩, if_neg (by simp [h3]), commentTo_fuel d _ _ hl.2.1 (by omega)]
theorem comment_nest (d : ByteArray) (k : Nat) (h1 : isWordF (runF d k).1 = true) (h2 : ((runF d k).1.text.toList == [36, 41]) = false) (h3 : bracketF (runF d k).1.text = true) : commentF d k = (⟨⟨#[]⟩, 2, false, (runF d k).1.pos⟩, (runF d k).2) := by
  unfold commentF
  rw [commentTo, if_pos ⟨h1, by simpa using h2⟩, if_pos h3]
theorem comment_open (d : ByteArray) (k : Nat) (h1 : isWordF (runF d k).1 = false) (h2 : (runF d k).1.fin = true) : commentF d k = (⟨⟨#[]⟩, 3, false, (runF d k).1.pos⟩, (runF d k).2) := by
  unfold commentF
  rw [commentTo, if_neg (by simp [h1]), if_pos h2]
theorem comment_bad (d : ByteArray) (k : Nat) (h1 : isWordF (runF d k).1 = false) (h2 : (runF d k).1.fin = false) : commentF d k = runF d k := by
  unfold commentF
  rw [commentTo, if_neg (by simp [h1]), if_neg (by simp [h2])]
theorem comment_close (d : ByteArray) (k : Nat) (h1 : isWordF (runF d k).1 = true) (h2 : ((runF d k).1.text.toList == [36, 41]) = true) : commentF d k = runF d k := by
  unfold commentF
  rw [commentTo, if_neg (by intro h; exact h.2 (by simpa using h2))]
  rw [if_neg (by intro h; simp [isWordF, h] at h1)]

theorem commentF_le (d : ByteArray) (k : Nat) (hk : k ≤ d.size) : k ≤ (commentF d k).2 ∧ (commentF d k).2 ≤ d.size := by
  unfold commentF
  suffices h : ∀ f k, k ≤ d.size → k ≤ (commentTo d f k).2 ∧ (commentTo d f k).2 ≤ d.size from h _ _ hk
  clear hk k
  intro f
  induction f with
  | zero => intro k hk; simp [commentTo, hk]
  | succ f ih =>
    intro k hk
    have hl := runF_le d k hk
    rw [commentTo]
    split
    · split
      · exact ⟨hl.1, hl.2.1⟩
      · have := ih (runF d k).2 hl.2.1; omega
    · split
      · exact ⟨hl.1, hl.2.1⟩
      · exact ⟨hl.1, hl.2.1⟩

/-- The next word that is in no comment. -/
def nextTo (d : ByteArray) : Nat → Nat → Item × Nat
  | 0, k => (⟨⟨#[]⟩, 0, true, k⟩, k)
  | f + 1, k =>
    if isWordF (runF d k).1 = true ∧ (runF d k).1.text.toList = [36, 40] then
      if isWordF (commentF d (runF d k).2).1 = true then nextTo d f (commentF d (runF d k).2).2 else commentF d (runF d k).2
    else runF d k
def nextF (d : ByteArray) (k : Nat) : Item × Nat := nextTo d (d.size - k + 1) k

theorem nextTo_fuel (d : ByteArray) (f k : Nat) (hk : k ≤ d.size) (hf : d.size - k + 1 ≤ f) : nextTo d f k = nextF d k := by
  unfold nextF
  suffices h : ∀ f g k, k ≤ d.size → d.size - k + 1 ≤ f → d.size - k + 1 ≤ g → nextTo d f k = nextTo d g k from h _ _ _ hk hf (Nat.le_refl _)
  clear hf hk f k
  intro f
  induction f with
  | zero => intro g k _ h; omega
  | succ f ih =>
    intro g k hk hf hg
    cases g with
    | zero => omega
    | succ g =>
      rw [nextTo, nextTo]
      split
      · next h =>
        have hl := runF_le d k hk
        have hl2 := hl.2.2 h.1
        have hc := commentF_le d (runF d k).2 hl.2.1
        split
        · exact ih g _ hc.2 (by omega) (by omega)
        · rfl
      · rfl
theorem next_on (d : ByteArray) (k : Nat) (hk : k ≤ d.size) (h1 : isWordF (runF d k).1 = true) (h2 : ((runF d k).1.text.toList == [36, 40]) = true) (h3 : isWordF (commentF d (runF d k).2).1 = true) :
    nextF d k = nextF d (commentF d (runF d k).2).2 := by
  have hl := runF_le d k hk
  have hl2 := hl.2.2 h1
  have hc := commentF_le d (runF d k).2 hl.2.1
  conv => lhs; unfold nextF
  rw [nextTo, if_pos ⟨h1, by simpa using h2⟩, if_pos h3, nextTo_fuel d _ _ hc.2 (by omega)]
theorem next_broken (d : ByteArray) (k : Nat) (h1 : isWordF (runF d k).1 = true) (h2 : ((runF d k).1.text.toList == [36, 40]) = true) (h3 : isWordF (commentF d (runF d k).2).1 = false) :
    nextF d k = commentF d (runF d k).2 := by
  unfold nextF
  rw [nextTo, if_pos ⟨h1, by simpa using h2⟩, if_neg (by simp [h3])]
theorem next_plain (d : ByteArray) (k : Nat) (h : isWordF (runF d k).1 = false ∨ ((runF d k).1.text.toList == [36, 40]) = false) : nextF d k = runF d k := by
  unfold nextF
  rw [nextTo, if_neg (by rintro ⟨a, b⟩; rcases h with h | h; · simp [h] at a
                         · simp [b] at h)]
theorem nextF_le (d : ByteArray) (k : Nat) (hk : k ≤ d.size) : k ≤ (nextF d k).2 ∧ (nextF d k).2 ≤ d.size ∧ (isWordF (nextF d k).1 = true → k < (nextF d k).2) := by
  unfold nextF
  suffices h : ∀ f k, k ≤ d.size → k ≤ (nextTo d f k).2 ∧ (nextTo d f k).2 ≤ d.size ∧ (isWordF (nextTo d f k).1 = true → k < (nextTo d f k).2) from h _ _ hk
  clear hk k
  intro f
  induction f with
  | zero => intro k hk; simp [nextTo, hk, isWordF]
  | succ f ih =>
    intro k hk
    have hl := runF_le d k hk
    have hc := commentF_le d (runF d k).2 hl.2.1
    rw [nextTo]
    split
    · next h =>
      have hl2 := hl.2.2 h.1
      split
      · have := ih (commentF d (runF d k).2).2 hc.2; omega
      · omega
    · exact hl

end Go.Proofs.YtcipkfhpcbddiaaGreat

/- Package words: comment, Next. -/
namespace Go.Proofs.YtcipkfhpcbddiaaGreat
open Go.RowKit
attribute [local go_sem] build_rule build_fin build_text

/-- Block r is an item's variable. -/
def ItemAt (w : World) (r : Nat) (n d : ByteArray) (i : Item) : Prop :=
  w.heap[r]? = some (.cells #[.string i.text, .int .i64 i.rule, .bool i.fin, .string n, .int .i64 (lineAt d i.pos), .int .i64 (colAt d i.pos)] 133 (0, 0))

theorem ItemAt.cells {w : World} {r : Nat} {n d t : ByteArray} {u : Int} {f : Bool} {p : Nat} (h : ItemAt w r n d ⟨t, u, f, p⟩) :
    w.cell? ⟨r, 0, none⟩ = some (.string t) ∧ w.cell? ⟨r, 1, none⟩ = some (.int .i64 u) ∧ w.cell? ⟨r, 2, none⟩ = some (.bool f) ∧
    w.cell? ⟨r, 3, none⟩ = some (.string n) ∧ w.cell? ⟨r, 4, none⟩ = some (.int .i64 (lineAt d p)) ∧ w.cell? ⟨r, 5, none⟩ = some (.int .i64 (colAt d p)) := by
  refine ⟨?_, ?_, ?_, ?_, ?_, ?_⟩ <;> (rw [cell_of h]; rfl)
theorem ItemAt.kept {w w' : World} {r : Nat} {n d : ByteArray} {i : Item} {S : List Nat} (h : ItemAt w r n d i) (hk : Kept S w w') (hb : r ∉ S) : ItemAt w' r n d i := hk.get h hb

theorem item_stored {w : World} {r : Nat} {n d : ByteArray} {i : Item} (h : ItemAt w r n d i) (j : Item) :
    ItemAt ((((((w.setCell ⟨r, 0, none⟩ (.string j.text)).setCell ⟨r, 1, none⟩ (.int .i64 j.rule)).setCell ⟨r, 2, none⟩ (.bool j.fin)).setCell ⟨r, 3, none⟩ (.string n)).setCell ⟨r, 4, none⟩ (.int .i64 (lineAt d j.pos))).setCell ⟨r, 5, none⟩ (.int .i64 (colAt d j.pos))) r n d j := by
  have := block_setCell (block_setCell (block_setCell (block_setCell (block_setCell (block_setCell h 0 (.string j.text)) 1 (.int .i64 j.rule)) 2 (.bool j.fin)) 3 (.string n)) 4 (.int .i64 (lineAt d j.pos))) 5 (.int .i64 (colAt d j.pos))
  unfold ItemAt
  rw [this]
  simp
theorem six_other {w : World} {b r : Nat} {o : Obj} (h : w.heap[b]? = some o) (hne : b ≠ r) (a0 a1 a2 a3 a4 a5 : Value) :
    ((((((w.setCell ⟨r, 0, none⟩ a0).setCell ⟨r, 1, none⟩ a1).setCell ⟨r, 2, none⟩ a2).setCell ⟨r, 3, none⟩ a3).setCell ⟨r, 4, none⟩ a4).setCell ⟨r, 5, none⟩ a5).heap[b]? = some o := by
  rw [Below.heap_setCell _ _ _ _ hne, Below.heap_setCell _ _ _ _ hne, Below.heap_setCell _ _ _ _ hne, Below.heap_setCell _ _ _ _ hne, Below.heap_setCell _ _ _ _ hne, Below.heap_setCell _ _ _ _ hne]
  exact h

/-- A word of the text is no longer than the text. -/
theorem runF_text (d : ByteArray) (k : Nat) (hd : d.size ≤ 1024) : (runF d k).1.text.size ≤ 1024 := by
  unfold runF
  simp only
  split
  · simp [ByteArray.size]
  · split
    · simp [ByteArray.size]
    · simp; omega

set_option maxHeartbeats 2000000 in
set_option maxRecDepth 100000 in
theorem comment_any (b k : Nat) (n d : ByteArray) (w : World) (hd : d.size ≤ 1024) (hk : k ≤ d.size) (h : ScanAt w b n d k) :
    Calls Tryz.prog 75 #[.pointer (some ⟨b, 0, none⟩)] w fun e w' => e = .returned (itemV n d (commentF d k).1) ∧ ScanAt w' b n d (commentF d k).2 ∧ Kept [b] w w' := by
  have hbw := lt_of_get h
  go_enter Tryz.func75, Tryz.ntmps75
  go_wp2_with fail
  refine (run_any b k n d _ hd hk (by exact h.kept ((Kept.refl [] _).alloc _) (by simp))).mono ?_
  rintro e w1 ⟨rfl, h1, hk1⟩
  have hr1 : w1.heap[w.heap.size]? = some (.cells zeroItem 133 (0, 0)) := hk1.get (heap_alloc_new _ _) (by simp; omega)
  have hkw : Kept [b] w w1 := ((Kept.refl _ _).alloc _).trans hk1
  have hb1 := lt_of_get h1
  have hR1 := lt_of_get hr1
  simp only [itemV]
  go_wp2
  go_loopg [] (d.size - k) (fun g wr => ∃ j, j ≤ d.size ∧ g = d.size - j ∧ Hid (commentF d k = commentF d j) ∧ ScanAt wr b n d (runF d j).2 ∧ ItemAt wr w1.heap.size n d (runF d j).1 ∧ wr.heap[w.heap.size]? = some (.cells zeroItem 133 (0, 0)) ∧ Kept [b] w wr)
  case atStart => exact ⟨k, hk, rfl, rfl, h1.kept ((Kept.refl [] _).alloc _) (by simp), heap_alloc_new _ _, ((Kept.refl [] _).alloc _).get hr1 (by simp), hkw.alloc _⟩
  case round =>
    obtain ⟨j, hj, hg, hs, h2, hi, hr, hkp⟩ := hrel
    have hrl := runF_le d j hj
    have htx := runF_text d j hd
    have L1 : Hid (_ → _ → _ → commentF d j = _) := comment_on d j hj
    have L2 : Hid (_ → _ → _ → commentF d j = _) := comment_nest d j
    have L3 : Hid (_ → _ → commentF d j = _) := comment_open d j
    have L4 : Hid (_ → _ → commentF d j = _) := comment_bad d j
    have L5 : Hid (_ → _ → commentF d j = _) := comment_close d j
    generalize hrr : runF d j = r at *
    obtain ⟨⟨t, u, f, p⟩, z⟩ := r
    have HR : Hid (runF d j = (⟨t, u, f, p⟩, z)) := hrr
    clear hrr
    simp only at h2 hi hrl htx
    obtain ⟨q0, q1, q2, q3, q4, q5⟩ := hi.cells
    have hRw := lt_of_get hr
    have hbr := lt_of_get h2
    have hIw := lt_of_get hi
    cases hw : (u == 0 && !f)
    · cases hf : f
      · have HF : Hid (commentF d j = (⟨t, u, false, p⟩, z)) := by have := L4.out (by simpa [isWordF] using hw) hf; rw [hf] at this; exact this
        subst hf
        have hw' : (u == 0) = false := by simpa using hw
        clear L1 L2 L3 L4 L5
        go_wp2_with fail
        refine (isWord_any t n u (lineAt d p) (colAt d p) _ _).mono ?_
        rintro e w2 ⟨rfl, hk2⟩
        have hi2 := hi.kept hk2 (by simp)
        have h22 := h2.kept hk2 (by simp)
        have hr2 := hk2.get hr (by simp)
        have hkp2 := hkp.trans (hk2.mono (by simp))
        clear q0 q1 q2 q3 q4 q5 hi h2 hr hkp hk2
        obtain ⟨q0, q1, q2, q3, q4, q5⟩ := hi2.cells
        obtain ⟨z0, z1, z2, z3, z4, z5⟩ := cells_zero hr2
        have y := free_of hr2
        go_wp2
        exact bodyPost_ret (v := itemV n d ⟨t, u, false, p⟩) (by simp [results, Tryz.results75, go_sem, itemV, z0, z1, z2, z3, z4, z5]) rfl
          (by rw [hs.out, HF.out]; exact ⟨rfl, six_scan h22 (by omega) _ _ _ _ _ _, six_kept hkp2 (Nat.le_refl _) _ _ _ _ _ _⟩)

      · have HF : Hid (commentF d j = (⟨⟨#[]⟩, 3, false, p⟩, z)) := L3.out (by simpa [isWordF] using hw) hf
        subst hf
        clear L1 L2 L3 L4 L5
        go_wp2_with fail
        refine (isWord_any t n u (lineAt d p) (colAt d p) _ _).mono ?_
        rintro e w2 ⟨rfl, hk2⟩
        have hi2 := hi.kept hk2 (by simp)
        have h22 := h2.kept hk2 (by simp)
        have hr2 := hk2.get hr (by simp)
        have hkp2 := hkp.trans (hk2.mono (by simp))
        clear q0 q1 q2 q3 q4 q5 hi h2 hr hkp hk2
        obtain ⟨q0, q1, q2, q3, q4, q5⟩ := hi2.cells
        obtain ⟨z0, z1, z2, z3, z4, z5⟩ := cells_zero hr2
        have y := free_of hr2
        go_wp2
        exact bodyPost_ret (v := itemV n d ⟨⟨#[]⟩, 3, false, p⟩) (by simp [results, Tryz.results75, go_sem, itemV, z0, z1, z2, z3, z4, z5]) rfl
          (by rw [hs.out, HF.out]; exact ⟨rfl, six_scan h22 (by omega) _ _ _ _ _ _, six_kept hkp2 (Nat.le_refl _) _ _ _ _ _ _⟩)

    · cases hx : (t.toList == [36, 41])
      · cases hy : bracketF t
        · have HF : Hid (commentF d j = commentF d z) := L1.out hw hx hy
          clear L1 L2 L3 L4 L5
          go_wp2_with fail
          refine (isWord_any t n u (lineAt d p) (colAt d p) _ _).mono ?_
          rintro e w2 ⟨rfl, hk2⟩
          have hi2 := hi.kept hk2 (by simp)
          have h22 := h2.kept hk2 (by simp)
          have hr2 := hk2.get hr (by simp)
          have hkp2 := hkp.trans (hk2.mono (by simp))
          clear q0 q1 q2 q3 q4 q5 hi h2 hr hkp hk2
          obtain ⟨q0, q1, q2, q3, q4, q5⟩ := hi2.cells
          go_wp2_with fail
          refine (bracket_any t _ (by omega)).mono ?_
          rintro e w3 ⟨rfl, rfl⟩
          go_wp2_with fail
          refine (run_any b z n d _ hd hrl.2.1 h22).mono ?_
          rintro e w4 ⟨rfl, h4, hk4⟩
          have hi4 := hi2.kept hk4 (by simp; omega)
          have hr4 := hk4.get hr2 (by simp; omega)
          have hkp4 := hkp2.trans hk4
          have yy := free_of hi4
          have hI4 := lt_of_get hi4
          clear q0 q1 q2 q3 q4 q5
          obtain ⟨q0, q1, q2, q3, q4, q5⟩ := hi4.cells
          simp only [itemV]
          go_wp2
          go_roundg (d.size - z)
          case measure => have := hrl.2.2 hw; omega
          case rel => exact ⟨z, hrl.2.1, rfl, hs.out.trans HF.out, six_scan h4 (by omega) _ _ _ _ _ _, item_stored hi4 _, six_other hr4 (by omega) _ _ _ _ _ _, six_kept hkp4 (by omega) _ _ _ _ _ _⟩

        · have HF : Hid (commentF d j = (⟨⟨#[]⟩, 2, false, p⟩, z)) := L2.out hw hx hy
          clear L1 L2 L3 L4 L5
          go_wp2_with fail
          refine (isWord_any t n u (lineAt d p) (colAt d p) _ _).mono ?_
          rintro e w2 ⟨rfl, hk2⟩
          have hi2 := hi.kept hk2 (by simp)
          have h22 := h2.kept hk2 (by simp)
          have hr2 := hk2.get hr (by simp)
          have hkp2 := hkp.trans (hk2.mono (by simp))
          clear q0 q1 q2 q3 q4 q5 hi h2 hr hkp hk2
          obtain ⟨q0, q1, q2, q3, q4, q5⟩ := hi2.cells
          go_wp2_with fail
          refine (bracket_any t _ (by omega)).mono ?_
          rintro e w3 ⟨rfl, rfl⟩
          obtain ⟨z0, z1, z2, z3, z4, z5⟩ := cells_zero hr2
          have y := free_of hr2
          go_wp2
          exact bodyPost_ret (v := itemV n d ⟨⟨#[]⟩, 2, false, p⟩) (by simp [results, Tryz.results75, go_sem, itemV, z0, z1, z2, z3, z4, z5]) rfl
            (by rw [hs.out, HF.out]; exact ⟨rfl, six_scan h22 (by omega) _ _ _ _ _ _, six_kept hkp2 (Nat.le_refl _) _ _ _ _ _ _⟩)

      · have HF : Hid (commentF d j = (⟨t, u, f, p⟩, z)) := L5.out hw hx
        clear L1 L2 L3 L4 L5
        have hf : f = false := by cases f; rfl; simp at hw
        subst hf
        have hw' : (u == 0) = true := by simpa using hw
        go_wp2_with fail
        refine (isWord_any t n u (lineAt d p) (colAt d p) _ _).mono ?_
        rintro e w2 ⟨rfl, hk2⟩
        have hi2 := hi.kept hk2 (by simp)
        have h22 := h2.kept hk2 (by simp)
        have hr2 := hk2.get hr (by simp)
        have hkp2 := hkp.trans (hk2.mono (by simp))
        clear q0 q1 q2 q3 q4 q5 hi h2 hr hkp hk2
        obtain ⟨q0, q1, q2, q3, q4, q5⟩ := hi2.cells
        obtain ⟨z0, z1, z2, z3, z4, z5⟩ := cells_zero hr2
        have y := free_of hr2
        go_wp2
        exact bodyPost_ret (v := itemV n d ⟨t, u, false, p⟩) (by simp [results, Tryz.results75, go_sem, itemV, z0, z1, z2, z3, z4, z5]) rfl
          (by rw [hs.out, HF.out]; exact ⟨rfl, six_scan h22 (by omega) _ _ _ _ _ _, six_kept hkp2 (Nat.le_refl _) _ _ _ _ _ _⟩)

end Go.Proofs.YtcipkfhpcbddiaaGreat

/- Package words: Next. -/
namespace Go.Proofs.YtcipkfhpcbddiaaGreat
open Go.RowKit
attribute [local go_sem] build_rule build_fin build_text

set_option maxHeartbeats 2000000 in
set_option maxRecDepth 100000 in
theorem next_any (b k : Nat) (n d : ByteArray) (w : World) (hd : d.size ≤ 1024) (hk : k ≤ d.size) (h : ScanAt w b n d k) :
    Calls Tryz.prog 60 #[.pointer (some ⟨b, 0, none⟩)] w fun e w' => e = .returned (itemV n d (nextF d k).1) ∧ ScanAt w' b n d (nextF d k).2 ∧ Kept [b] w w' := by
  have hbw := lt_of_get h
  go_enter Tryz.func60, Tryz.ntmps60
  go_wp2_with fail
  refine (run_any b k n d _ hd hk (by exact h.kept ((Kept.refl [] _).alloc _) (by simp))).mono ?_
  rintro e w1 ⟨rfl, h1, hk1⟩
  have hr1 : w1.heap[w.heap.size]? = some (.cells zeroItem 133 (0, 0)) := hk1.get (heap_alloc_new _ _) (by simp; omega)
  have hkw : Kept [b] w w1 := ((Kept.refl _ _).alloc _).trans hk1
  have hb1 := lt_of_get h1
  have hR1 := lt_of_get hr1
  simp only [itemV]
  go_wp2
  go_loopg [4] (d.size - k) (fun g _ wr => ∃ j, j ≤ d.size ∧ g = d.size - j ∧ Hid (nextF d k = nextF d j) ∧ ScanAt wr b n d (runF d j).2 ∧ ItemAt wr w1.heap.size n d (runF d j).1 ∧ wr.heap[w.heap.size]? = some (.cells zeroItem 133 (0, 0)) ∧ Kept [b] w wr)
  case atStart => exact ⟨k, hk, rfl, rfl, h1.kept ((Kept.refl [] _).alloc _) (by simp), heap_alloc_new _ _, ((Kept.refl [] _).alloc _).get hr1 (by simp), hkw.alloc _⟩
  case round =>
    obtain ⟨j, hj, hg, hs, h2, hi, hr, hkp⟩ := hrel
    have hrl := runF_le d j hj
    have htx := runF_text d j hd
    have L1 : Hid (_ → _ → _ → nextF d j = _) := next_on d j hj
    have L2 : Hid (_ → _ → _ → nextF d j = _) := next_broken d j
    have L3 : Hid (_ → nextF d j = _) := next_plain d j
    generalize hrr : runF d j = r at *
    obtain ⟨⟨t, u, f, p⟩, z⟩ := r
    have HR : Hid (runF d j = (⟨t, u, f, p⟩, z)) := hrr
    clear hrr
    simp only at h2 hi hrl htx
    obtain ⟨q0, q1, q2, q3, q4, q5⟩ := hi.cells
    have hRw := lt_of_get hr
    have hbr := lt_of_get h2
    have hIw := lt_of_get hi
    cases hw : (u == 0 && !f)
    · have HF : Hid (nextF d j = (⟨t, u, f, p⟩, z)) := L3.out (Or.inl hw)
      clear L1 L2 L3
      go_wp2_with fail
      refine (isWord_any t n u (lineAt d p) (colAt d p) _ _).mono ?_
      rintro e w2 ⟨rfl, hk2⟩
      have hi2 := hi.kept hk2 (by simp)
      have h22 := h2.kept hk2 (by simp)
      have hr2 := hk2.get hr (by simp)
      have hkp2 := hkp.trans (hk2.mono (by simp))
      clear q0 q1 q2 q3 q4 q5 hi h2 hr hkp hk2
      obtain ⟨q0, q1, q2, q3, q4, q5⟩ := hi2.cells
      obtain ⟨z0, z1, z2, z3, z4, z5⟩ := cells_zero hr2
      have y := free_of hr2
      go_wp2
      exact bodyPost_ret (v := itemV n d ⟨t, u, f, p⟩) (by simp [results, Tryz.results60, go_sem, itemV, z0, z1, z2, z3, z4, z5]) rfl
        (by rw [hs.out, HF.out]; exact ⟨rfl, six_scan h22 (by omega) _ _ _ _ _ _, six_kept hkp2 (Nat.le_refl _) _ _ _ _ _ _⟩)

    · cases hx : (t.toList == [36, 40])
      · have HF : Hid (nextF d j = (⟨t, u, f, p⟩, z)) := L3.out (Or.inr hx)
        clear L1 L2 L3
        go_wp2_with fail
        refine (isWord_any t n u (lineAt d p) (colAt d p) _ _).mono ?_
        rintro e w2 ⟨rfl, hk2⟩
        have hi2 := hi.kept hk2 (by simp)
        have h22 := h2.kept hk2 (by simp)
        have hr2 := hk2.get hr (by simp)
        have hkp2 := hkp.trans (hk2.mono (by simp))
        clear q0 q1 q2 q3 q4 q5 hi h2 hr hkp hk2
        obtain ⟨q0, q1, q2, q3, q4, q5⟩ := hi2.cells
        obtain ⟨z0, z1, z2, z3, z4, z5⟩ := cells_zero hr2
        have y := free_of hr2
        go_wp2
        exact bodyPost_ret (v := itemV n d ⟨t, u, f, p⟩) (by simp [results, Tryz.results60, go_sem, itemV, z0, z1, z2, z3, z4, z5]) rfl
          (by rw [hs.out, HF.out]; exact ⟨rfl, six_scan h22 (by omega) _ _ _ _ _ _, six_kept hkp2 (Nat.le_refl _) _ _ _ _ _ _⟩)

      · have hcl := commentF_le d z hrl.2.1
        have L4 : Hid (_ → nextF d j = nextF d _) := fun h => L1.out hw hx h
        have L5 : Hid (_ → nextF d j = _) := fun h => L2.out hw hx h
        clear L1 L2 L3
        generalize hcc : commentF d z = c at *
        obtain ⟨⟨ct, cu, cf, cp⟩, cz⟩ := c
        have HC : Hid (commentF d z = (⟨ct, cu, cf, cp⟩, cz)) := hcc
        clear hcc
        simp only at hcl
        cases hcw : (cu == 0 && !cf)
        · have HF : Hid (nextF d j = (⟨ct, cu, cf, cp⟩, cz)) := L5.out hcw
          clear L4 L5
          go_wp2_with fail
          refine (isWord_any t n u (lineAt d p) (colAt d p) _ _).mono ?_
          rintro e w2 ⟨rfl, hk2⟩
          have hi2 := hi.kept hk2 (by simp)
          have h22 := h2.kept hk2 (by simp)
          have hr2 := hk2.get hr (by simp)
          have hkp2 := hkp.trans (hk2.mono (by simp))
          clear q0 q1 q2 q3 q4 q5 hi h2 hr hkp hk2
          obtain ⟨q0, q1, q2, q3, q4, q5⟩ := hi2.cells
          go_wp2_with fail
          refine (comment_any b z n d _ hd hrl.2.1 h22).mono ?_
          rintro e w3 ⟨rfl, h3, hk3⟩
          have hi3 := hi2.kept hk3 (by simp; omega)
          have hr3 := hk3.get hr2 (by simp; omega)
          have hkp3 := hkp2.trans hk3
          have hb3 := lt_of_get h3
          have hI3 := lt_of_get hi3
          have hR3 := lt_of_get hr3
          simp only [itemV]
          rw [HC.out]
          simp only
          go_wp2_with fail
          refine (isWord_any ct n cu (lineAt d cp) (colAt d cp) _ _).mono ?_
          rintro e w4 ⟨rfl, hk4⟩
          have hl4 : ItemAt w4 w3.heap.size n d ⟨ct, cu, cf, cp⟩ := hk4.get (heap_alloc_new _ _) (by simp)
          have hi4 := (hi3.kept ((Kept.refl [] _).alloc _) (by simp)).kept hk4 (by simp)
          have h4 := (h3.kept ((Kept.refl [] _).alloc _) (by simp)).kept hk4 (by simp)
          have hr4 := hk4.get (((Kept.refl [] _).alloc _).get hr3 (by simp)) (by simp)
          have hkp4 := (hkp3.alloc _).trans (hk4.mono (by simp))
          rw [HC.out] at h4
          simp only at h4
          have hb4 := lt_of_get h4
          have hI4 := lt_of_get hi4
          have hR4 := lt_of_get hr4
          clear q0 q1 q2 q3 q4 q5 hi2 hr2 hkp2 hk4 hi3 hr3 hkp3 hk3 h3 h22
          obtain ⟨p0, p1, p2, p3, p4, p5⟩ := hl4.cells
          obtain ⟨z0, z1, z2, z3, z4, z5⟩ := cells_zero hr4
          have y := free_of hr4
          go_wp2
          exact bodyPost_ret (v := itemV n d ⟨ct, cu, cf, cp⟩) (by simp [results, Tryz.results60, go_sem, itemV, z0, z1, z2, z3, z4, z5]) rfl
            (by rw [hs.out, HF.out]; exact ⟨rfl, six_scan h4 (by omega) _ _ _ _ _ _, six_kept hkp4 (Nat.le_refl _) _ _ _ _ _ _⟩)

        · have HF : Hid (nextF d j = nextF d cz) := L4.out hcw
          clear L4 L5
          go_wp2_with fail
          refine (isWord_any t n u (lineAt d p) (colAt d p) _ _).mono ?_
          rintro e w2 ⟨rfl, hk2⟩
          have hi2 := hi.kept hk2 (by simp)
          have h22 := h2.kept hk2 (by simp)
          have hr2 := hk2.get hr (by simp)
          have hkp2 := hkp.trans (hk2.mono (by simp))
          clear q0 q1 q2 q3 q4 q5 hi h2 hr hkp hk2
          obtain ⟨q0, q1, q2, q3, q4, q5⟩ := hi2.cells
          go_wp2_with fail
          refine (comment_any b z n d _ hd hrl.2.1 h22).mono ?_
          rintro e w3 ⟨rfl, h3, hk3⟩
          have hi3 := hi2.kept hk3 (by simp; omega)
          have hr3 := hk3.get hr2 (by simp; omega)
          have hkp3 := hkp2.trans hk3
          have hb3 := lt_of_get h3
          have hI3 := lt_of_get hi3
          have hR3 := lt_of_get hr3
          simp only [itemV]
          rw [HC.out]
          simp only
          go_wp2_with fail
          refine (isWord_any ct n cu (lineAt d cp) (colAt d cp) _ _).mono ?_
          rintro e w4 ⟨rfl, hk4⟩
          have hl4 : ItemAt w4 w3.heap.size n d ⟨ct, cu, cf, cp⟩ := hk4.get (heap_alloc_new _ _) (by simp)
          have hi4 := (hi3.kept ((Kept.refl [] _).alloc _) (by simp)).kept hk4 (by simp)
          have h4 := (h3.kept ((Kept.refl [] _).alloc _) (by simp)).kept hk4 (by simp)
          have hr4 := hk4.get (((Kept.refl [] _).alloc _).get hr3 (by simp)) (by simp)
          have hkp4 := (hkp3.alloc _).trans (hk4.mono (by simp))
          rw [HC.out] at h4
          simp only at h4
          have hb4 := lt_of_get h4
          have hI4 := lt_of_get hi4
          have hR4 := lt_of_get hr4
          clear q0 q1 q2 q3 q4 q5 hi2 hr2 hkp2 hk4 hi3 hr3 hkp3 hk3 h3 h22
          obtain ⟨p0, p1, p2, p3, p4, p5⟩ := hl4.cells
          go_wp2_with fail
          refine (run_any b cz n d _ hd hcl.2 h4).mono ?_
          rintro e w5 ⟨rfl, h5, hk5⟩
          have hi5 := hi4.kept hk5 (by simp; omega)
          have hr5 := hk5.get hr4 (by simp; omega)
          have hkp5 := hkp4.trans hk5
          have yy := free_of hi5
          have hI5 := lt_of_get hi5
          obtain ⟨q0, q1, q2, q3, q4, q5⟩ := hi5.cells
          simp only [itemV]
          go_wp2
          go_roundg (d.size - cz)
          case measure => have := hrl.2.2 hw; omega
          case rel => exact ⟨cz, hcl.2, rfl, hs.out.trans HF.out, six_scan h5 (by omega) _ _ _ _ _ _, item_stored hi5 _, six_other hr5 (by omega) _ _ _ _ _ _, six_kept hkp5 (by omega) _ _ _ _ _ _⟩

end Go.Proofs.YtcipkfhpcbddiaaGreat

/- Package table: names, the files of a table in memory, Find. -/
namespace Go.Proofs.YtcipkfhpcbddiaaGreat
open Go.RowKit

def nameB (n : Int) : Bool := decide (33 ≤ n) && decide (n ≤ 126) && !(n == 36)
/-- May a file bear this name? -/
def isNameF (s : ByteArray) : Bool := decide (1 ≤ s.size) && decide (s.size ≤ 8) && (List.range s.size).all (fun i => nameB (byteAt s i))
def checkF (n d : ByteArray) : Int := if isNameF n = false then 2 else if 1024 < d.size then 3 else 0

theorem isName_short (s : ByteArray) (h : s.size < 1 ∨ 8 < s.size) : isNameF s = false := by
  unfold isNameF
  rcases h with h | h
  · simp [show ¬ 1 ≤ s.size by omega]
  · simp [show ¬ s.size ≤ 8 by omega]
theorem isName_bad (s : ByteArray) (i : Nat) (h : i < s.size) (hb : nameB (byteAt s i) = false) : isNameF s = false := by
  unfold isNameF
  have : (List.range s.size).all (fun i => nameB (byteAt s i)) = false := by
    rw [List.all_eq_false]; exact ⟨i, by simp [h], by simp [hb]⟩
  simp [this]
theorem isName_good (s : ByteArray) (h1 : 1 ≤ s.size) (h2 : s.size ≤ 8) (h : ∀ i, i < s.size → nameB (byteAt s i) = true) : isNameF s = true := by
  unfold isNameF
  have : (List.range s.size).all (fun i => nameB (byteAt s i)) = true := by
    rw [List.all_eq_true]; intro i hi; exact h i (by simpa using hi)
  simp [this, h1, h2]

set_option maxHeartbeats 400000 in
theorem isName_any (s : ByteArray) (w : World) (hs : s.size ≤ 1073741824) :
    Calls Tryz.prog 49 #[.string s] w fun e w' => e = .returned (.bool (isNameF s)) ∧ w' = w := by
  by_cases h1 : 1 ≤ s.size
  · by_cases h2 : s.size ≤ 8
    · go_enter Tryz.func49, Tryz.ntmps49
      go_wp2
      go_loopg [3] s.size (fun g i wr => ∃ k : Nat, k ≤ s.size ∧ g = s.size - k ∧ i = .int .i64 k ∧ Hid (∀ i, i < k → nameB (byteAt s i) = true) ∧ wr = w)
      case atStart => exact ⟨0, by omega, by omega, rfl, fun i h => by omega, rfl⟩
      case round =>
        obtain ⟨k, hk, hg, rfl, hall, rfl⟩ := hrel
        by_cases hlt : k < s.size
        · have hq : ∀ b : Bool, nameB (s[k].toNat : Int) = b → nameB (byteAt s k) = b := fun b h => by rw [byteAt_of s k hlt]; exact h
          have HQ : Hid (∀ b : Bool, nameB (s[k].toNat : Int) = b → nameB (byteAt s k) = b) := hq
          clear hq
          go_wp2
          all_goals first
            | (go_ret; refine ⟨ret_bool ?_, rfl⟩; rw [isName_bad s k hlt (HQ.out false ?_)]; first | (simp [nameB]; omega) | (simp [nameB]; simp at *; omega))
            | (go_roundg (s.size - (k + 1))
               case measure => omega
               case rel =>
                 refine ⟨k + 1, by omega, rfl, by go_num, ?_, rfl⟩
                 intro i hi
                 by_cases e : i = k
                 · subst e; exact HQ.out true (by simp [nameB]; simp at *; omega)
                 · exact hall.out i (by omega))
        · go_wp2
          go_ret
          exact ⟨ret_bool (isName_good s h1 h2 (fun i hi => hall.out i (by omega))).symm, rfl⟩
    · go_enter Tryz.func49, Tryz.ntmps49
      go_wp2
      all_goals go_ret
      all_goals exact ⟨ret_bool (isName_short s (Or.inr (by omega))).symm, rfl⟩
  · go_enter Tryz.func49, Tryz.ntmps49
    go_wp2
    all_goals go_ret
    all_goals exact ⟨ret_bool (isName_short s (Or.inl (by omega))).symm, rfl⟩

set_option maxHeartbeats 400000 in
theorem check_any (n d : ByteArray) (w : World) (hn : n.size ≤ 1073741824) (hd : d.size ≤ 4294967296) :
    Calls Tryz.prog 42 #[.string n, .string d] w fun e w' => e = .returned (.int .i64 (checkF n d)) ∧ w' = w := by
  cases hb : isNameF n
  · go_enter Tryz.func42, Tryz.ntmps42
    go_wp2_with fail
    refine (isName_any n _ hn).mono ?_
    rintro e w1 ⟨rfl, rfl⟩
    go_wp2
    go_ret
    exact ⟨ret_int (by simp [checkF, hb]), rfl⟩
  · by_cases hl : 1024 < d.size
    · go_enter Tryz.func42, Tryz.ntmps42
      go_wp2_with fail
      refine (isName_any n _ hn).mono ?_
      rintro e w1 ⟨rfl, rfl⟩
      go_wp2
      go_ret
      exact ⟨ret_int (by simp [checkF, hb, hl]), rfl⟩
    · go_enter Tryz.func42, Tryz.ntmps42
      go_wp2_with fail
      refine (isName_any n _ hn).mono ?_
      rintro e w1 ⟨rfl, rfl⟩
      go_wp2
      go_ret
      exact ⟨ret_int (by simp [checkF, hb, hl]), rfl⟩

/-- The files of a table. -/
def fileNm (fs : List (ByteArray × ByteArray)) (i : Nat) : ByteArray := (fs.getD i (⟨#[]⟩, ⟨#[]⟩)).1
def fileDt (fs : List (ByteArray × ByteArray)) (i : Nat) : ByteArray := (fs.getD i (⟨#[]⟩, ⟨#[]⟩)).2
def tabList (fs : List (ByteArray × ByteArray)) : List Value :=
  [.string (fileNm fs 0), .string (fileDt fs 0), .string (fileNm fs 1), .string (fileDt fs 1), .string (fileNm fs 2), .string (fileDt fs 2), .string (fileNm fs 3), .string (fileDt fs 3), .int .i64 fs.length]
/-- A table at the head of block v (of type t), with more cells behind it. -/
def TabAt (w : World) (v t : Nat) (fs : List (ByteArray × ByteArray)) (more : List Value) : Prop := w.heap[v]? = some (.cells (tabList fs ++ more).toArray t (0, 0)) ∧ fs.length ≤ 4

theorem TabAt.name {w : World} {v t : Nat} {fs : List (ByteArray × ByteArray)} {more : List Value} (h : TabAt w v t fs more) (i : Nat) (hi : i < 4) :
    w.cell? ⟨v, i * 2, none⟩ = some (.string (fileNm fs i)) ∧ w.cell? ⟨v, i * 2 + 1, none⟩ = some (.string (fileDt fs i)) := by
  constructor <;> rw [cell_of h.1]
  · match i, hi with
    | 0, _ => rfl
    | 1, _ => rfl
    | 2, _ => rfl
    | 3, _ => rfl
  · match i, hi with
    | 0, _ => rfl
    | 1, _ => rfl
    | 2, _ => rfl
    | 3, _ => rfl
theorem TabAt.count {w : World} {v t : Nat} {fs : List (ByteArray × ByteArray)} {more : List Value} (h : TabAt w v t fs more) :
    w.cell? ⟨v, 8, none⟩ = some (.int .i64 fs.length) := by
  rw [cell_of h.1]; rfl

def findFrom (n : ByteArray) : List (ByteArray × ByteArray) → Nat → Int
  | [], _ => -1
  | f :: r, i => if (f.1.toList == n.toList) = true then i else findFrom n r (i + 1)
/-- The place of the first file of that name, or -1. -/
def findF (fs : List (ByteArray × ByteArray)) (n : ByteArray) : Int := findFrom n fs 0

theorem drop_at {α : Type} (l : List α) (k : Nat) (h : k < l.length) : l.drop k = l[k] :: l.drop (k + 1) := List.drop_eq_getElem_cons h
theorem fileNm_at (fs : List (ByteArray × ByteArray)) (k : Nat) (h : k < fs.length) : fileNm fs k = fs[k].1 := by
  unfold fileNm; rw [List.getD_eq_getElem?_getD, List.getElem?_eq_getElem h]; rfl
theorem find_hit (fs : List (ByteArray × ByteArray)) (n : ByteArray) (k : Nat) (h : k < fs.length) (he : findF fs n = findFrom n (fs.drop k) k) (hb : ((fileNm fs k).toList == n.toList) = true) : findF fs n = k := by
  rw [he, drop_at _ _ h, findFrom, ← fileNm_at fs k h, if_pos hb]
theorem find_miss (fs : List (ByteArray × ByteArray)) (n : ByteArray) (k : Nat) (h : k < fs.length) (he : findF fs n = findFrom n (fs.drop k) k) (hb : ((fileNm fs k).toList == n.toList) = false) : findF fs n = findFrom n (fs.drop (k + 1)) (k + 1) := by
  rw [he, drop_at _ _ h, findFrom, ← fileNm_at fs k h, if_neg (by simp [hb])]
theorem find_over (fs : List (ByteArray × ByteArray)) (n : ByteArray) (k : Nat) (h : ¬ k < fs.length) (he : findF fs n = findFrom n (fs.drop k) k) : findF fs n = -1 := by
  rw [he, List.drop_of_length_le (by omega), findFrom]

set_option maxHeartbeats 400000 in
theorem find_any (v t : Nat) (fs : List (ByteArray × ByteArray)) (more : List Value) (n : ByteArray) (w : World) (h : TabAt w v t fs more) :
    Calls Tryz.prog 34 #[.pointer (some ⟨v, 0, none⟩), .string n] w fun e w' => e = .returned (.int .i64 (findF fs n)) ∧ w' = w := by
  have hcnt := h.count
  have hlen := h.2
  go_enter Tryz.func34, Tryz.ntmps34
  go_wp2
  go_loopg [5] fs.length (fun g i wr => ∃ k : Nat, k ≤ fs.length ∧ g = fs.length - k ∧ i = .int .i64 k ∧ Hid (findF fs n = findFrom n (fs.drop k) k) ∧ wr = w)
  case atStart => exact ⟨0, by omega, by omega, rfl, rfl, rfl⟩
  case round =>
    obtain ⟨k, hk, hg, rfl, hall, rfl⟩ := hrel
    by_cases hlt : k < fs.length
    · obtain ⟨q0, q1⟩ := h.name k (by omega)
      cases hb : ((fileNm fs k).toList == n.toList)
      · have HM : Hid (findF fs n = findFrom n (fs.drop (k + 1)) (k + 1)) := find_miss fs n k hlt hall.out hb
        clear hall
        go_wp2
        go_roundg (fs.length - (k + 1))
        case measure => omega
        case rel => exact ⟨k + 1, by omega, rfl, by go_num, HM, rfl⟩
      · have HM : Hid (findF fs n = k) := find_hit fs n k hlt hall.out hb
        clear hall
        go_wp2
        go_ret
        exact ⟨ret_int HM.out.symm, rfl⟩
    · have HM : Hid (findF fs n = -1) := find_over fs n k hlt hall.out
      clear hall
      go_wp2
      go_ret
      exact ⟨ret_int HM.out.symm, rfl⟩

end Go.Proofs.YtcipkfhpcbddiaaGreat
