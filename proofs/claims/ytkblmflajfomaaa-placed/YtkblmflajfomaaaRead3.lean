/- reader.Read; the verifier's calls. -/
import Derived.Test.YtkblmflajfomaaaRead2
namespace Go.Proofs.Ytkblmflajfomaaa
open Go.RowKit
attribute [local go_sem] build_fault build_nofault

theorem build_reader (w : World) (a : Option Addr) : (Instr.build 79 #[(0, .pointer a)]).run Try.prog w = .ok (.agg #[.pointer a, .bool false, .bool false, .bool false, .bool false,
    .slice none 0 0, .slice none 0 0, .slice none 0 0, .slice none 0 0, .slice none 0 0, .slice none 0 0, .int .i64 0, .slice none 0 0, .bool false]) w :=
  run_build w 79 _ _ (by kernel_rfl)
attribute [local go_sem] build_reader

def noHd : Nat → Hd := fun _ => ⟨none, 0⟩
theorem blks_no : blks noHd = [] := by simp [blks, noHd, Hd.blk]

/-- No word of this text is an inclusion. -/
def NoInc (s : ByteArray) : Prop := ∀ k, k ≤ s.size → isWordF (nextF s k).1 = true → ((nextF s k).1.text.toList == [36, 91]) = false

theorem DbIs.fresh {w : World} {b t : Nat} {pre : List Value} (h : w.heap[b]? = some (.cells (pre ++ (dbList emptyDb noHd ++ [])).toArray t (0, 0))) : DbIs w b t pre [] emptyDb noHd := by
  refine ⟨h, ?_, fun i j _ _ _ => Or.inl rfl, fun i _ e => by simp [noHd, Hd.blk] at e⟩
  intro i hi
  match i, hi with
  | 0, _ => exact World.ownsRow_nil _ _ _ _
  | 1, _ => exact World.ownsRow_nil _ _ _ _
  | 2, _ => exact World.ownsRow_nil _ _ _ _
  | 3, _ => exact World.ownsRow_nil _ _ _ _
  | 4, _ => exact World.ownsRow_nil _ _ _ _
  | 5, _ => exact World.ownsRow_nil _ _ _ _
  | 6, _ => exact World.ownsRow_nil _ _ _ _

set_option maxHeartbeats 800000 in
set_option maxRecDepth 100000 in
theorem read_any (v tt k0 : Nat) (fs : List (ByteArray × ByteArray)) (more : List Value) (n s : ByteArray) (w : World)
    (ht : TabAt w v tt fs more) (hk0 : k0 < fs.length) (hn : fileNm fs k0 = n) (hsd : fileDt fs k0 = s) (hs : s.size ≤ 1024) (hni : NoInc s) :
    Calls Try.prog 22 #[.pointer (some ⟨v, 0, none⟩), .int .i64 k0] w fun e w' => e = .returned (faultV n s (readF s 0 emptyDb).1 (readF s 0 emptyDb).2) ∧ Kept [] w w' := by
  have hvw := ht.lt
  have hl := ht.2
  obtain ⟨W, hW⟩ : ∃ W, W = (w.alloc (.cells #[.int .i64 0, .string ⟨#[]⟩, .int .i64 0, .int .i64 0] 47)).alloc (.cells #[.pointer (some ⟨v, 0, none⟩), .bool false, .bool false, .bool false, .bool false,
    .slice none 0 0, .slice none 0 0, .slice none 0 0, .slice none 0 0, .slice none 0 0, .slice none 0 0, .int .i64 0, .slice none 0 0, .bool false] 79) := ⟨_, rfl⟩
  have hF : W.heap[w.heap.size]? = some (.cells #[.int .i64 0, .string ⟨#[]⟩, .int .i64 0, .int .i64 0] 47 (0, 0)) := by
    rw [hW]; exact ((Kept.refl [] _).alloc _).get (heap_alloc_new _ _) (by simp)
  have hD : DbIs W (w.heap.size + 1) 79 [.pointer (some ⟨v, 0, none⟩), .bool false, .bool false, .bool false, .bool false] [] emptyDb noHd := by
    refine DbIs.fresh ?_
    rw [hW]
    have e : (w.alloc (.cells #[.int .i64 0, .string ⟨#[]⟩, .int .i64 0, .int .i64 0] 47)).heap.size = w.heap.size + 1 := by simp
    rw [← e]
    exact heap_alloc_new _ _
  have hT : TabAt W v tt fs more := by rw [hW]; exact ht.kept (((Kept.refl [] _).alloc _).alloc _) (by simp)
  have hKW : Kept [] w W := by rw [hW]; exact ((Kept.refl [] _).alloc _).alloc _
  have hb0 : ([.pointer (some ⟨v, 0, none⟩), .bool false, .bool false, .bool false, .bool false] : List Value)[1 + k0]? = some (.bool false) := by
    have : k0 < 4 := by omega
    match k0, this with
    | 0, _ => rfl
    | 1, _ => rfl
    | 2, _ => rfl
    | 3, _ => rfl
  have HW := (show Hid _ from hW.symm)
  have RF := readFile_any (w.heap.size + 1) v tt k0 _ _ _ _ fs more noHd n s W hD (by omega) (by rw [blks_no]; simp) hT hk0 hn hsd hb0 hs hni
  rw [blks_no] at RF
  have HRF := (show Hid _ from RF)
  clear hW RF
  generalize readF s 0 emptyDb = rp at *
  obtain ⟨r, p⟩ := rp
  simp only [faultV] at HRF ⊢
  cases hr : (r == 0)
  · simp only [hr, Bool.false_eq_true, if_false] at HRF ⊢
    go_enter Try.func22, Try.ntmps22
    go_wp2_with fail
    rw [HW.out]
    refine Calls.mono HRF.out ?_
    rintro e w2 ⟨rfl, hk2⟩
    have hF2 := hk2.get hF (by simp)
    obtain ⟨z0, z1, z2, z3⟩ := zero_cells hF2
    have y := free_of hF2
    have hkf : Kept [] w w2 := ⟨hk2.os.trans hKW.os, hk2.tape.trans hKW.tape, hk2.output.trans hKW.output, Nat.le_trans hKW.size hk2.size, fun k hk _ => (hk2.block k (Nat.lt_of_lt_of_le hk hKW.size) (by simp; omega)).trans (hKW.block k hk (by simp))⟩
    go_wp2
    exact bodyPost_ret (v := .agg #[.int .i64 r, .string n, .int .i64 (lineAt s p), .int .i64 (colAt s p)]) (by simp [results, Try.results22, go_sem, z0, z1, z2, z3]) rfl
      ⟨rfl, (((hkf.setCell (Or.inr (Nat.le_refl _)) _).setCell (Or.inr (Nat.le_refl _)) _).setCell (Or.inr (Nat.le_refl _)) _).setCell (Or.inr (Nat.le_refl _)) _⟩
  · simp only [hr, if_true] at HRF ⊢
    go_enter Try.func22, Try.ntmps22
    go_wp2_with fail
    rw [HW.out]
    refine Calls.mono HRF.out ?_
    rintro e w2 ⟨rfl, hk2⟩
    have hF2 := hk2.get hF (by simp)
    obtain ⟨z0, z1, z2, z3⟩ := zero_cells hF2
    have y := free_of hF2
    have hkf : Kept [] w w2 := ⟨hk2.os.trans hKW.os, hk2.tape.trans hKW.tape, hk2.output.trans hKW.output, Nat.le_trans hKW.size hk2.size, fun k hk _ => (hk2.block k (Nat.lt_of_lt_of_le hk hKW.size) (by simp; omega)).trans (hKW.block k hk (by simp))⟩
    go_wp2
    exact bodyPost_ret (v := .agg #[.int .i64 0, .string ⟨#[]⟩, .int .i64 0, .int .i64 0]) (by simp [results, Try.results22, go_sem, z0, z1, z2, z3]) rfl
      ⟨rfl, (((hkf.setCell (Or.inr (Nat.le_refl _)) _).setCell (Or.inr (Nat.le_refl _)) _).setCell (Or.inr (Nat.le_refl _)) _).setCell (Or.inr (Nat.le_refl _)) _⟩

/-- A verifier: its table, and whether it has a report. -/
def VerAt (w : World) (x : Nat) (fs : List (ByteArray × ByteArray)) (rep : Bool) : Prop := TabAt w x 62 fs [.bool rep]
theorem VerAt.rep {w : World} {x : Nat} {fs : List (ByteArray × ByteArray)} {rep : Bool} (h : VerAt w x fs rep) : w.cell? ⟨x, 9, none⟩ = some (.bool rep) := by rw [cell_of h.1]; rfl
theorem VerAt.turn {w : World} {x : Nat} {fs : List (ByteArray × ByteArray)} {rep : Bool} (h : VerAt w x fs rep) (b : Bool) : VerAt (w.setCell ⟨x, 9, none⟩ (.bool b)) x fs b := by
  refine ⟨?_, h.2⟩
  rw [block_setCell h.1]
  rfl

theorem build_ver (w : World) : (Instr.build 62 #[]).run Try.prog w = .ok (.agg #[.string ⟨#[]⟩, .string ⟨#[]⟩, .string ⟨#[]⟩, .string ⟨#[]⟩, .string ⟨#[]⟩, .string ⟨#[]⟩, .string ⟨#[]⟩, .string ⟨#[]⟩, .int .i64 0, .bool false]) w :=
  run_build w 62 _ _ (by kernel_rfl)
attribute [local go_sem] build_ver

theorem new_any (w : World) : Calls Try.prog 13 #[] w fun e w' => e = .returned (.pointer (some ⟨w.heap.size, 0, none⟩)) ∧ VerAt w' w.heap.size [] false ∧ Kept [] w w' := by
  go_enter Try.func13, Try.ntmps13
  go_wp2
  go_ret
  exact ⟨rfl, ⟨heap_alloc_new _ _, by simp⟩, (Kept.refl _ _).alloc _⟩

theorem rows_any (a : Value) (w : World) : Calls Try.prog 25 #[a] w fun e w' => e = .returned (.slice none 0 0) ∧ w' = w := by
  go_enter Try.func25, Try.ntmps25
  go_wp2
  go_ret
  exact ⟨rfl, rfl⟩

theorem vput_any (x : Nat) (n d : ByteArray) (fs : List (ByteArray × ByteArray)) (rep : Bool) (w : World) (h : VerAt w x fs rep) (hn : n.size ≤ 1073741824) (hd : d.size ≤ 4294967296) :
    Calls Try.prog 11 #[.pointer (some ⟨x, 0, none⟩), .string n, .string d] w fun e w' => e = .returned (.int .i64 (putF fs n d).1) ∧ (∃ r, VerAt w' x (putF fs n d).2 r) ∧ Kept [x] w w' := by
  have PF := put_any x 62 n d fs [.bool rep] w h hn hd
  have HPF := (show Hid _ from PF)
  clear PF
  generalize putF fs n d = pf at *
  obtain ⟨e0, fs'⟩ := pf
  simp only at HPF ⊢
  cases he : (e0 == 0)
  · go_enter Try.func11, Try.ntmps11
    go_wp2_with fail
    refine Calls.mono HPF.out ?_
    rintro e w2 ⟨rfl, h2, hk2⟩
    go_wp2
    go_ret
    exact ⟨rfl, ⟨rep, h2⟩, hk2⟩
  · go_enter Try.func11, Try.ntmps11
    go_wp2_with fail
    refine Calls.mono HPF.out ?_
    rintro e w2 ⟨rfl, h2, hk2⟩
    have c9 := VerAt.rep h2
    have f9 := h2.free 9
    have hT := (show Hid _ from VerAt.turn h2 false)
    go_wp2
    go_ret
    exact ⟨rfl, ⟨false, hT.out⟩, hk2.setCell (Or.inl (by simp)) _⟩

set_option maxHeartbeats 800000 in
set_option maxRecDepth 100000 in
theorem verify_any (x k0 : Nat) (fs : List (ByteArray × ByteArray)) (rep : Bool) (n s : ByteArray) (w : World) (h : VerAt w x fs rep) (hf : findF fs n = k0) (hk0 : k0 < fs.length) (hn : fileNm fs k0 = n) (hsd : fileDt fs k0 = s) (hs : s.size ≤ 1024) (hni : NoInc s) :
    Calls Try.prog 14 #[.pointer (some ⟨x, 0, none⟩), .string n] w fun e w' =>
      e = .returned (.tuple #[faultV n s (readF s 0 emptyDb).1 (readF s 0 emptyDb).2, .int .i64 (if ((readF s 0 emptyDb).1 == 0) = true then 0 else 6)]) ∧ (∃ r, VerAt w' x fs r) ∧ Kept [x] w w' := by
  have hl := h.2
  have hxw := h.lt
  obtain ⟨W, hW⟩ : ∃ W, W = w.alloc (.cells #[.int .i64 0, .string ⟨#[]⟩, .int .i64 0, .int .i64 0] 47) := ⟨_, rfl⟩
  have hVW : VerAt W x fs rep := by rw [hW]; exact TabAt.kept h ((Kept.refl [] _).alloc _) (by simp)
  have hKW : Kept [x] w W := by rw [hW]; exact (Kept.refl _ _).alloc _
  have hF : W.heap[w.heap.size]? = some (.cells #[.int .i64 0, .string ⟨#[]⟩, .int .i64 0, .int .i64 0] 47 (0, 0)) := by rw [hW]; exact heap_alloc_new _ _
  have HW := (show Hid _ from hW.symm)
  have HFF : Hid (findF fs n = k0) := hf
  have RF := read_any x 62 k0 fs [.bool rep] n s W hVW hk0 hn hsd hs hni
  have HRF := (show Hid _ from RF)
  clear hW RF hf hn hsd
  generalize readF s 0 emptyDb = rp at *
  obtain ⟨r, p⟩ := rp
  simp only [faultV] at HRF ⊢
  cases hr : (r == 0)
  · simp only [hr, Bool.false_eq_true, if_false] at HRF ⊢
    go_enter Try.func14, Try.ntmps14
    go_wp2_with fail
    rw [HW.out]
    refine (find_any x 62 fs [.bool rep] n _ hVW).mono ?_
    rintro e w2 ⟨rfl, hw2⟩
    rw [hw2, HFF.out]
    go_wp2_with fail
    refine Calls.mono HRF.out ?_
    rintro e w3 ⟨rfl, hk3⟩
    have h3 : VerAt w3 x fs rep := TabAt.kept hVW hk3 (by simp)
    have c9 := h3.rep
    have f9 := TabAt.free h3
    have hF3 := hk3.get hF (by simp)
    obtain ⟨z0, z1, z2, z3⟩ := zero_cells hF3
    have y := free_of hF3
    have hFw := lt_of_get hF3
    have hxw3 := TabAt.lt h3
    have hT := (show Hid _ from h3.turn false)
    have hne : w.heap.size ≠ x := by omega
    go_wp2
    exact bodyPost_ret (v := .tuple #[.agg #[.int .i64 r, .string n, .int .i64 (lineAt s p), .int .i64 (colAt s p)], .int .i64 6]) (by simp [results, Try.results14, go_sem, hFw, z0, z1, z2, z3]) rfl
      ⟨rfl, ⟨false, (TabAt.kept (TabAt.kept hT.out (four_in _ _ _ _) (by simp; omega)) ((Kept.refl [] _).alloc _) (by simp))⟩,
        (((((((hKW.trans (hk3.mono (by simp))).setCell (Or.inl (by simp)) _).setCell (Or.inr (Nat.le_refl _)) _).setCell (Or.inr (Nat.le_refl _)) _).setCell (Or.inr (Nat.le_refl _)) _).setCell (Or.inr (Nat.le_refl _)) _).alloc _)⟩
  · simp only [hr, if_true] at HRF ⊢
    go_enter Try.func14, Try.ntmps14
    go_wp2_with fail
    rw [HW.out]
    refine (find_any x 62 fs [.bool rep] n _ hVW).mono ?_
    rintro e w2 ⟨rfl, hw2⟩
    rw [hw2, HFF.out]
    go_wp2_with fail
    refine Calls.mono HRF.out ?_
    rintro e w3 ⟨rfl, hk3⟩
    have h3 : VerAt w3 x fs rep := TabAt.kept hVW hk3 (by simp)
    have c9 := h3.rep
    have f9 := TabAt.free h3
    have hF3 := hk3.get hF (by simp)
    obtain ⟨z0, z1, z2, z3⟩ := zero_cells hF3
    have y := free_of hF3
    have hFw := lt_of_get hF3
    have hxw3 := TabAt.lt h3
    have hT := (show Hid _ from h3.turn true)
    have hne : w.heap.size ≠ x := by omega
    go_wp2
    exact bodyPost_ret (v := .tuple #[.agg #[.int .i64 0, .string ⟨#[]⟩, .int .i64 0, .int .i64 0], .int .i64 0]) (by simp [results, Try.results14, go_sem, hFw, z0, z1, z2, z3]) rfl
      ⟨rfl, ⟨true, (TabAt.kept (TabAt.kept hT.out (four_in _ _ _ _) (by simp; omega)) ((Kept.refl [] _).alloc _) (by simp))⟩,
        (((((((hKW.trans (hk3.mono (by simp))).setCell (Or.inl (by simp)) _).setCell (Or.inr (Nat.le_refl _)) _).setCell (Or.inr (Nat.le_refl _)) _).setCell (Or.inr (Nat.le_refl _)) _).setCell (Or.inr (Nat.le_refl _)) _).alloc _)⟩

end Go.Proofs.Ytkblmflajfomaaa
