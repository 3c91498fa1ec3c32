/- Package words: the two kinds of bytes; a scanner's step and place. -/
import Derived.Test.YtkblmflajfomaaaBase
import Derived.Deep.QuietTactic
import Derived.BigQuiet
namespace Go.Proofs.Ytkblmflajfomaaa
open Go.RowKit

def blankB (n : Int) : Bool := n == 32 || n == 9 || n == 10 || n == 12 || n == 13
def plainB (n : Int) : Bool := decide (33 ≤ n) && decide (n ≤ 126)

set_option maxHeartbeats 400000 in
theorem isBlank_any (n : Int) (w : World) :
    Calls Try.prog 44 #[.int .u8 n] w fun e w' => e = .returned (.bool (blankB n)) ∧ w' = w := by
  go_enter Try.func44, Try.ntmps44
  go_wp2
  all_goals go_ret
  all_goals (refine ⟨?_, rfl⟩; simp [blankB, *])

set_option maxHeartbeats 400000 in
theorem isPrintable_any (n : Int) (w : World) :
    Calls Try.prog 47 #[.int .u8 n] w fun e w' => e = .returned (.bool (plainB n)) ∧ w' = w := by
  go_enter Try.func47, Try.ntmps47
  go_wp2
  all_goals go_ret
  all_goals (refine ⟨?_, rfl⟩; first | (simp [plainB, *]; done) | (simp [plainB]; omega))

/-- The byte at place k, as Go's walk has it. -/
def byteAt (d : ByteArray) (k : Nat) : Int := if h : k < d.size then ((d[k]'h).toNat : Int) else 0
theorem byteAt_of (d : ByteArray) (k : Nat) (h : k < d.size) : byteAt d k = ((d[k]'h).toNat : Int) := by unfold byteAt; rw [dif_pos h]

/-- The line and the column of place k: both from 1 on; a line ends behind its byte 10. -/
def lineAt (d : ByteArray) : Nat → Int
  | 0 => 1
  | k + 1 => if byteAt d k == 10 then lineAt d k + 1 else lineAt d k
def colAt (d : ByteArray) : Nat → Int
  | 0 => 1
  | k + 1 => if byteAt d k == 10 then 1 else colAt d k + 1

theorem line_le (d : ByteArray) (k : Nat) : 1 ≤ lineAt d k ∧ lineAt d k ≤ k + 1 := by
  induction k with
  | zero => simp [lineAt]
  | succ k ih => simp only [lineAt]; split <;> omega
theorem col_le (d : ByteArray) (k : Nat) : 1 ≤ colAt d k ∧ colAt d k ≤ k + 1 := by
  induction k with
  | zero => simp [colAt]
  | succ k ih => simp only [colAt]; split <;> omega

def scanCells (n d : ByteArray) (k : Nat) : Array Value := #[.string n, .string d, .int .i64 k, .int .i64 (lineAt d k), .int .i64 (colAt d k)]
/-- Block b is a scanner of the file (n, d), ahead of place k. -/
def ScanAt (w : World) (b : Nat) (n d : ByteArray) (k : Nat) : Prop := w.heap[b]? = some (.cells (scanCells n d k) 93 (0, 0))

theorem ScanAt.cells {w : World} {b : Nat} {n d : ByteArray} {k : Nat} (h : ScanAt w b n d k) :
    w.cell? ⟨b, 0, none⟩ = some (.string n) ∧ w.cell? ⟨b, 1, none⟩ = some (.string d) ∧ w.cell? ⟨b, 2, none⟩ = some (.int .i64 k) ∧
    w.cell? ⟨b, 3, none⟩ = some (.int .i64 (lineAt d k)) ∧ w.cell? ⟨b, 4, none⟩ = some (.int .i64 (colAt d k)) := by
  refine ⟨?_, ?_, ?_, ?_, ?_⟩ <;> (rw [cell_of h]; rfl)

theorem ScanAt.kept {w w' : World} {b : Nat} {n d : ByteArray} {k : Nat} {S : List Nat} (h : ScanAt w b n d k) (hk : Kept S w w') (hb : b ∉ S) : ScanAt w' b n d k :=
  (hk.block b (lt_of_get h) hb).trans h

theorem Kept.get {S : List Nat} {w w' : World} (hk : Kept S w w') {b : Nat} {o : Obj} (h : w.heap[b]? = some o) (hb : b ∉ S) : w'.heap[b]? = some o :=
  (hk.block b (lt_of_get h) hb).trans h

theorem scan_step_lf {w : World} {b k : Nat} {n d : ByteArray} (h : ScanAt w b n d k) (hk : k < d.size) (hb : ((d[k].toNat : Int) == 10) = true) (m : Nat) :
    ScanAt (((((w.drewN m).setCell ⟨b, 3, none⟩ (.int .i64 (lineAt d k + 1))).setCell ⟨b, 4, none⟩ (.int .i64 0)).setCell ⟨b, 4, none⟩ (.int .i64 1)).setCell ⟨b, 2, none⟩ (.int .i64 ((k : Int) + 1))) b n d (k + 1) := by
  have h0 : (w.drewN m).heap[b]? = some (.cells (scanCells n d k) 93 (0, 0)) := h
  have h4 := block_setCell (block_setCell (block_setCell (block_setCell h0 3 (.int .i64 (lineAt d k + 1))) 4 (.int .i64 0)) 4 (.int .i64 1)) 2 (.int .i64 ((k : Int) + 1))
  unfold ScanAt
  rw [h4]
  simp [scanCells, lineAt, colAt, byteAt_of d k hk, hb]

theorem scan_step_other {w : World} {b k : Nat} {n d : ByteArray} (h : ScanAt w b n d k) (hk : k < d.size) (hb : ((d[k].toNat : Int) == 10) = false) (m : Nat) :
    ScanAt (((w.drewN m).setCell ⟨b, 4, none⟩ (.int .i64 (colAt d k + 1))).setCell ⟨b, 2, none⟩ (.int .i64 ((k : Int) + 1))) b n d (k + 1) := by
  have h0 : (w.drewN m).heap[b]? = some (.cells (scanCells n d k) 93 (0, 0)) := h
  have h4 := block_setCell (block_setCell h0 4 (.int .i64 (colAt d k + 1))) 2 (.int .i64 ((k : Int) + 1))
  unfold ScanAt
  rw [h4]
  simp [scanCells, lineAt, colAt, byteAt_of d k hk, hb]

set_option maxHeartbeats 400000 in
theorem step_any (b k : Nat) (n d : ByteArray) (w : World) (hd : d.size ≤ 1024) (hk : k < d.size) (h : ScanAt w b n d k) :
    Calls Try.prog 45 #[.pointer (some ⟨b, 0, none⟩)] w fun e w' => e = .returned (.tuple #[]) ∧ ScanAt w' b n d (k + 1) ∧ Kept [b] w w' := by
  obtain ⟨c0, c1, c2, c3, c4⟩ := h.cells
  have f2 := free_of h 2
  have f3 := free_of h 3
  have f4 := free_of h 4
  have bl := line_le d k
  have bc := col_le d k
  go_enter Try.func45, Try.ntmps45
  go_wp2
  go_quiet (fail)
  go_wp2
  go_quiet (fail)
  go_wp2
  all_goals go_end0
  all_goals refine ⟨rfl, ?_, ?_⟩
  · exact scan_step_lf h hk (by assumption) _
  · exact ((((((Kept.refl _ _).drewN _).setCell (Or.inl (by simp)) _).setCell (Or.inl (by simp)) _).setCell (Or.inl (by simp)) _).setCell (Or.inl (by simp)) _)
  · exact scan_step_other h hk (by assumption) _
  · exact ((((Kept.refl _ _).drewN _).setCell (Or.inl (by simp)) _).setCell (Or.inl (by simp)) _)

/-- A place as a value. -/
def placeV (n : ByteArray) (l c : Int) : Value := .agg #[.string n, .int .i64 l, .int .i64 c]

set_option maxHeartbeats 400000 in
theorem place_any (b k : Nat) (n d : ByteArray) (w : World) (h : ScanAt w b n d k) :
    Calls Try.prog 46 #[.pointer (some ⟨b, 0, none⟩)] w fun e w' => e = .returned (.agg #[.string n, .int .i64 (lineAt d k), .int .i64 (colAt d k)]) ∧ Kept [] w w' := by
  obtain ⟨c0, c1, c2, c3, c4⟩ := h.cells
  have hb := lt_of_get h
  go_enter Try.func46, Try.ntmps46
  go_wp2
  go_region
  all_goals go_wp2
  exact bodyPost_ret (v := .agg #[.string n, .int .i64 (lineAt d k), .int .i64 (colAt d k)]) (by simp [results, Try.results46, go_sem]) rfl ⟨rfl, ((Kept.refl _ _).alloc _).drew⟩

end Go.Proofs.Ytkblmflajfomaaa
