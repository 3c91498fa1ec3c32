/- Package metaproofkeep: see. -/
import Derived.Test.YtkblmflajfomaaaKeep1
namespace Go.Proofs.Ytkblmflajfomaaa
open Go.RowKit
attribute [local go_sem] build_nofault

def mName : ByteArray := ⟨#[109]⟩
theorem mName_is : isNameF ⟨#[109]⟩ = true := by decide +kernel

/-- The table has the file m, or room for it; and N other files at most. -/
def MOk (N : Nat) (fs : List (ByteArray × ByteArray)) : Prop := ((∃ k : Nat, k < fs.length ∧ findF fs ⟨#[109]⟩ = k) ∧ fs.length ≤ N + 1) ∨ (findF fs ⟨#[109]⟩ = -1 ∧ fs.length ≤ N)

theorem findFrom_set (n d : ByteArray) (fs : List (ByteArray × ByteArray)) (i j : Nat) (hj : j < fs.length) (h : findFrom n fs i = ((i + j : Nat) : Int)) : findFrom n (fs.set j (n, d)) i = ((i + j : Nat) : Int) := by
  induction fs generalizing i j with
  | nil => simp at hj
  | cons f r ih =>
    cases j with
    | zero => simp [findFrom]
    | succ j =>
      rw [findFrom] at h
      split at h
      · omega
      · next hne =>
        rw [List.set_cons_succ, findFrom, if_neg hne]
        have := ih (i + 1) j (by simpa using hj) (by rw [h]; omega)
        rw [this]; omega
theorem findFrom_snoc (n d : ByteArray) (fs : List (ByteArray × ByteArray)) (i : Nat) (h : findFrom n fs i = -1) : findFrom n (fs ++ [(n, d)]) i = ((i + fs.length : Nat) : Int) := by
  induction fs generalizing i with
  | nil => simp [findFrom]
  | cons f r ih =>
    rw [findFrom] at h
    split at h
    · omega
    · next hne =>
      rw [List.cons_append, findFrom, if_neg hne, ih (i + 1) h]
      simp; omega

theorem put_m {N : Nat} (hN : N ≤ 3) (fs : List (ByteArray × ByteArray)) (t : ByteArray) (h : MOk N fs) (ht : ¬ 1024 < t.size) :
    ∃ (k : Nat) (fs' : List (ByteArray × ByteArray)), putF fs ⟨#[109]⟩ t = (0, fs') ∧ k < fs'.length ∧ findF fs' ⟨#[109]⟩ = k ∧ fileNm fs' k = ⟨#[109]⟩ ∧ fileDt fs' k = t ∧ MOk N fs' := by
  have hc : checkF ⟨#[109]⟩ t = 0 := by simp [checkF, mName_is, ht]
  rcases h with ⟨⟨k, hk, hf⟩, hl⟩ | ⟨hf, hl⟩
  · have h2 : findF (fs.set k (⟨#[109]⟩, t)) ⟨#[109]⟩ = k := by
      have := findFrom_set ⟨#[109]⟩ t fs 0 k hk (by rw [show findFrom _ fs 0 = findF fs ⟨#[109]⟩ from rfl, hf]; simp)
      simpa [findF] using this
    refine ⟨k, fs.set k (⟨#[109]⟩, t), by simp [putF, hc, hf], by simpa using hk, h2, ?_, ?_, Or.inl ⟨⟨k, by simpa using hk, h2⟩, by simpa using hl⟩⟩
    · simp [fileNm, hk]
    · simp [fileDt, hk]
  · have h2 : findF (fs ++ [(⟨#[109]⟩, t)]) ⟨#[109]⟩ = fs.length := by
      have := findFrom_snoc ⟨#[109]⟩ t fs 0 hf
      simpa [findF] using this
    refine ⟨fs.length, fs ++ [(⟨#[109]⟩, t)], by simp [putF, hc, hf]; omega, by simp, h2, ?_, ?_, Or.inl ⟨⟨fs.length, by simp, h2⟩, by simpa using hl⟩⟩
    · simp [fileNm]
    · simp [fileDt]
theorem put_long (fs : List (ByteArray × ByteArray)) (t : ByteArray) (ht : 1024 < t.size) : putF fs ⟨#[109]⟩ t = (3, fs) := by
  have hc : checkF ⟨#[109]⟩ t = 3 := by simp [checkF, mName_is, ht]
  simp [putF, hc]

def worldCells (x : Nat) (t : ByteArray) : Array Value := #[.pointer (some ⟨x, 0, none⟩), .string t, .slice none 0 0, .int .i64 0, .slice none 0 0, .slice none 0 0, .slice none 0 0, .slice none 0 0, .slice none 0 0]
def WorldAt (w : World) (b x : Nat) (t : ByteArray) : Prop := w.heap[b]? = some (.cells (worldCells x t) 39 (0, 0))
theorem WorldAt.kept {w w' : World} {b x : Nat} {t : ByteArray} {S : List Nat} (h : WorldAt w b x t) (hk : Kept S w w') (hb : b ∉ S) : WorldAt w' b x t := hk.get h hb
theorem WorldAt.cells {w : World} {b x : Nat} {t : ByteArray} (h : WorldAt w b x t) : w.cell? ⟨b, 0, none⟩ = some (.pointer (some ⟨x, 0, none⟩)) ∧ w.cell? ⟨b, 1, none⟩ = some (.string t) ∧ w.cell? ⟨b, 2, none⟩ = some (.slice none 0 0) := by
  refine ⟨?_, ?_, ?_⟩ <;> (rw [cell_of h]; rfl)

def seenV (r : Int) (f : ByteArray) (l c e : Int) : Value := .tuple #[.agg #[.slice none 0 0, .int .i64 r, .string f, .int .i64 l, .int .i64 c, .int .i64 e], .bool true]

theorem seen_cells {w : World} {r : Nat} {a0 a1 a2 a3 a4 a5 : Value} (h : w.heap[r]? = some (.cells #[a0, a1, a2, a3, a4, a5] 52 (0, 0))) :
    w.cell? ⟨r, 0, none⟩ = some a0 ∧ w.cell? ⟨r, 1, none⟩ = some a1 ∧ w.cell? ⟨r, 2, none⟩ = some a2 ∧ w.cell? ⟨r, 3, none⟩ = some a3 ∧ w.cell? ⟨r, 4, none⟩ = some a4 ∧ w.cell? ⟨r, 5, none⟩ = some a5 := by
  refine ⟨?_, ?_, ?_, ?_, ?_, ?_⟩ <;> (rw [cell_of h]; rfl)

set_option maxHeartbeats 2000000 in
set_option maxRecDepth 100000 in
theorem see_long (b x : Nat) (T t : ByteArray) (fs : List (ByteArray × ByteArray)) (rep : Bool) (w : World) (hW : WorldAt w b x T) (hV : VerAt w x fs rep) (hx : x ≠ b) (ht : 1024 < t.size) (ht2 : t.size ≤ 4294967296) :
    Calls Try.prog 17 #[.pointer (some ⟨b, 0, none⟩), .string t] w fun e w' => e = .returned (seenV 0 ⟨#[]⟩ 0 0 3) ∧ WorldAt w' b x T ∧ (∃ r, VerAt w' x fs r) ∧ Kept [x] w w' := by
  have hbw := lt_of_get hW
  have hxw := TabAt.lt hV
  obtain ⟨c0, c1, c2⟩ := hW.cells
  obtain ⟨W, hWW⟩ : ∃ W, W = (w.alloc (.cells #[.slice none 0 0, .int .i64 0, .string ⟨#[]⟩, .int .i64 0, .int .i64 0, .int .i64 0] 52)).alloc (.cells #[.slice none 0 0, .int .i64 0, .string ⟨#[]⟩, .int .i64 0, .int .i64 0, .int .i64 0] 52) := ⟨_, rfl⟩
  have hKW : Kept [x] w W := by rw [hWW]; exact ((Kept.refl _ _).alloc _).alloc _
  have hKW0 : Kept [] w W := by rw [hWW]; exact ((Kept.refl _ _).alloc _).alloc _
  have s0 : W.heap[w.heap.size]? = some (.cells #[.slice none 0 0, .int .i64 0, .string ⟨#[]⟩, .int .i64 0, .int .i64 0, .int .i64 0] 52 (0, 0)) := by
    rw [hWW]; exact ((Kept.refl [] _).alloc _).get (heap_alloc_new _ _) (by simp)
  have s1 : W.heap[w.heap.size + 1]? = some (.cells #[.slice none 0 0, .int .i64 0, .string ⟨#[]⟩, .int .i64 0, .int .i64 0, .int .i64 0] 52 (0, 0)) := by
    rw [hWW]
    have e : (w.alloc (.cells #[.slice none 0 0, .int .i64 0, .string ⟨#[]⟩, .int .i64 0, .int .i64 0, .int .i64 0] 52)).heap.size = w.heap.size + 1 := by simp
    rw [← e]; exact heap_alloc_new _ _
  have HW := (show Hid _ from hWW.symm)
  have PF := vput_any x ⟨#[109]⟩ t fs rep W (TabAt.kept hV hKW0 (by simp)) (by simp [ByteArray.size]) ht2
  rw [put_long fs t ht] at PF
  have HPF := (show Hid _ from PF)
  clear PF hWW
  go_enter Try.func17, Try.ntmps17
  go_wp2_with fail
  rw [HW.out]
  refine Calls.mono HPF.out ?_
  rintro e w2 ⟨rfl, ⟨r, hV2⟩, hk2⟩
  have hne1 : w.heap.size ≠ x := by omega
  have hne2 : w.heap.size + 1 ≠ x := by omega
  have s02 := hk2.get s0 (by simp; omega)
  have s12 := hk2.get s1 (by simp; omega)
  obtain ⟨y0, y1, y2, y3, y4, y5⟩ := seen_cells s02
  obtain ⟨z0, z1, z2, z3, z4, z5⟩ := seen_cells s12
  have f0 := free_of s02
  have f1 := free_of s12
  have hW2 : WorldAt w2 b x T := (hW.kept hKW0 (by simp)).kept hk2 (by simp; omega)
  have hkx : Kept [x] w w2 := hKW.trans hk2
  have hxx : x ∉ [w.heap.size, w.heap.size + 1] := by simp; omega
  have hbb : b ∉ [w.heap.size, w.heap.size + 1] := by simp; omega
  have hdd : decide (1024 < (t.size : Int)) = true := by simp; omega
  go_wp2
  refine bodyPost_ret (v := seenV 0 ⟨#[]⟩ 0 0 3) (by simp [results, Try.results17, go_sem, seenV, y0, y1, y2, y3, y4, y5]) rfl ⟨rfl, ?_, ?_, ?_⟩
  · exact hW2.kept (S := [w.heap.size, w.heap.size + 1]) (by repeat (first | refine Kept.setCell ?_ (Or.inl (by simp)) _ | refine Kept.alloc ?_ _ | refine Kept.drew ?_ | exact Kept.refl _ _)) hbb
  · exact ⟨r, TabAt.kept hV2 (S := [w.heap.size, w.heap.size + 1]) (by repeat (first | refine Kept.setCell ?_ (Or.inl (by simp)) _ | refine Kept.alloc ?_ _ | refine Kept.drew ?_ | exact Kept.refl _ _)) hxx⟩
  · exact (by repeat (first | refine Kept.setCell ?_ (Or.inr (by simp)) _ | refine Kept.alloc ?_ _ | refine Kept.drew ?_ | exact hkx))

theorem twelve_kept {S : List Nat} {w w3 : World} {p q : Nat} (h : Kept S w w3) (hp : p ∈ S ∨ w.heap.size ≤ p) (hq : q ∈ S ∨ w.heap.size ≤ q) (a0 a1 a2 a3 a4 a5 a6 a7 a8 a9 a10 a11 : Value) (o : Obj) :
    Kept S w (((((((((((((w3.setCell ⟨q, 1, none⟩ a0).setCell ⟨q, 2, none⟩ a1).setCell ⟨q, 3, none⟩ a2).setCell ⟨q, 4, none⟩ a3).setCell ⟨q, 5, none⟩ a4).setCell ⟨q, 0, none⟩ a5).setCell ⟨p, 0, none⟩ a6).setCell ⟨p, 1, none⟩ a7).setCell ⟨p, 2, none⟩ a8).setCell ⟨p, 3, none⟩ a9).setCell ⟨p, 4, none⟩ a10).setCell ⟨p, 5, none⟩ a11).alloc o).drew :=
  (((((((((((((h.setCell hq _).setCell hq _).setCell hq _).setCell hq _).setCell hq _).setCell hq _).setCell hp _).setCell hp _).setCell hp _).setCell hp _).setCell hp _).setCell hp _).alloc o).drew

/-- What is said of a text that fits. -/
def seeV (t : ByteArray) (r : Int) (p : Nat) : Value :=
  if (r == 0) = true then seenV 0 ⟨#[]⟩ 0 0 0 else seenV r ⟨#[109]⟩ (lineAt t p) (colAt t p) 6

theorem eqFault (w : World) : (binOp .eql 47 (.agg #[.int .i64 0, .string ⟨#[]⟩, .int .i64 0, .int .i64 0]) (.agg #[.int .i64 0, .string ⟨#[]⟩, .int .i64 0, .int .i64 0])).run Try.prog w = .ok (.bool true) w := by kernel_rfl

set_option maxHeartbeats 3000000 in
set_option maxRecDepth 100000 in
theorem see_short {N : Nat} (hN : N ≤ 3) (b x : Nat) (T t : ByteArray) (fs : List (ByteArray × ByteArray)) (rep : Bool) (w : World) (hW : WorldAt w b x T) (hV : VerAt w x fs rep) (hx : x ≠ b) (ht : ¬ 1024 < t.size) (hM : MOk N fs) (hni : NoInc t) :
    Calls Try.prog 17 #[.pointer (some ⟨b, 0, none⟩), .string t] w fun e w' => e = .returned (seeV t (readF t 0 emptyDb).1 (readF t 0 emptyDb).2) ∧ WorldAt w' b x T ∧ (∃ fs' r, VerAt w' x fs' r ∧ MOk N fs') ∧ Kept [x] w w' := by
  have hbw := lt_of_get hW
  have hxw := TabAt.lt hV
  obtain ⟨c0, c1, c2⟩ := hW.cells
  obtain ⟨W, hWW⟩ : ∃ W, W = (w.alloc (.cells #[.slice none 0 0, .int .i64 0, .string ⟨#[]⟩, .int .i64 0, .int .i64 0, .int .i64 0] 52)).alloc (.cells #[.slice none 0 0, .int .i64 0, .string ⟨#[]⟩, .int .i64 0, .int .i64 0, .int .i64 0] 52) := ⟨_, rfl⟩
  have hKW : Kept [x] w W := by rw [hWW]; exact ((Kept.refl _ _).alloc _).alloc _
  have hKW0 : Kept [] w W := by rw [hWW]; exact ((Kept.refl _ _).alloc _).alloc _
  have s0 : W.heap[w.heap.size]? = some (.cells #[.slice none 0 0, .int .i64 0, .string ⟨#[]⟩, .int .i64 0, .int .i64 0, .int .i64 0] 52 (0, 0)) := by
    rw [hWW]; exact ((Kept.refl [] _).alloc _).get (heap_alloc_new _ _) (by simp)
  have s1 : W.heap[w.heap.size + 1]? = some (.cells #[.slice none 0 0, .int .i64 0, .string ⟨#[]⟩, .int .i64 0, .int .i64 0, .int .i64 0] 52 (0, 0)) := by
    rw [hWW]
    have e : (w.alloc (.cells #[.slice none 0 0, .int .i64 0, .string ⟨#[]⟩, .int .i64 0, .int .i64 0, .int .i64 0] 52)).heap.size = w.heap.size + 1 := by simp
    rw [← e]; exact heap_alloc_new _ _
  have HW := (show Hid _ from hWW.symm)
  obtain ⟨k, fs', hp, hk, hf, hnm, hdt, hM'⟩ := put_m hN fs t hM ht
  have PF := vput_any x ⟨#[109]⟩ t fs rep W (TabAt.kept hV hKW0 (by simp)) (by simp [ByteArray.size]) (by omega)
  rw [hp] at PF
  have HPF := (show Hid _ from PF)
  have VF := fun (w' : World) (r' : Bool) (h' : VerAt w' x fs' r') => verify_any x k fs' r' ⟨#[109]⟩ t w' h' hf hk hnm hdt (by omega) hni
  have HVF := (show Hid _ from VF)
  clear PF VF hWW hp hf hnm hdt
  generalize readF t 0 emptyDb = rp at *
  obtain ⟨r, p⟩ := rp
  simp only [faultV, seeV] at HVF ⊢
  have hne1 : w.heap.size ≠ x := by omega
  have hne2 : w.heap.size + 1 ≠ x := by omega
  have hxx : x ∉ [w.heap.size, w.heap.size + 1] := by simp; omega
  have hbb : b ∉ [w.heap.size, w.heap.size + 1] := by simp; omega
  cases hr : (r == 0)
  · simp only [hr, Bool.false_eq_true, if_false] at HVF ⊢
    have hr' : (r != 0) = true := by simp [bne, hr]
    have hsn := fun (wx : World) => Lib.run_eql_slice_nil (P := Try.prog) wx 34 83 none 0 0 0 0 Try.underlying34
    go_enter Try.func17, Try.ntmps17
    go_wp2_with fail
    rw [HW.out]
    refine Calls.mono HPF.out ?_
    rintro e w2 ⟨rfl, ⟨r2, hV2⟩, hk2⟩
    have s02 := hk2.get s0 (by simp; omega)
    have s12 := hk2.get s1 (by simp; omega)
    have hW2 : WorldAt w2 b x T := (hW.kept hKW0 (by simp)).kept hk2 (by simp; omega)
    have hkx2 : Kept [x] w w2 := hKW.trans hk2
    obtain ⟨y0, y1, y2, y3, y4, y5⟩ := seen_cells s02
    obtain ⟨z0, z1, z2, z3, z4, z5⟩ := seen_cells s12
    have f0 := free_of s02
    have f1 := free_of s12
    clear c0 c1 c2
    obtain ⟨c0, c1, c2⟩ := hW2.cells
    go_wp2_with (go_at_call 25; refine (rows_any _ _).mono ?_; rintro e w9 ⟨rfl, rfl⟩)
    refine Calls.mono (HVF.out _ r2 (by exact TabAt.kept hV2 (S := [w.heap.size, w.heap.size + 1]) ((Kept.refl _ _).setCell (Or.inl (by simp)) _) hxx)) ?_
    rintro e w3 ⟨rfl, ⟨r3, hV3⟩, hk3⟩
    have s03 := hk3.get ((Below.heap_setCell w2 ⟨w.heap.size + 1, 5, none⟩ (.int .i64 0) w.heap.size (by simp)).trans s02) (by simp; omega)
    have s13 : w3.heap[w.heap.size + 1]? = some (.cells #[.slice none 0 0, .int .i64 0, .string ⟨#[]⟩, .int .i64 0, .int .i64 0, .int .i64 0] 52 (0, 0)) := hk3.get ((block_setCell s12 5 (.int .i64 0)).trans (by simp)) (by simp; omega)
    have hW3 : WorldAt w3 b x T := (hW2.kept (S := [w.heap.size, w.heap.size + 1]) ((Kept.refl _ _).setCell (Or.inl (by simp)) _) hbb).kept hk3 (by simp; omega)
    have hkx : Kept [x] w w3 := (hkx2.setCell (Or.inr (by simp)) _).trans hk3
    have hz3 := lt_of_get s13
    have hz3' := lt_of_get s03
    have hb3 := lt_of_get hW3
    have hx3 := TabAt.lt hV3
    clear y0 y1 y2 y3 y4 y5 z0 z1 z2 z3 z4 z5 f0 f1 c0 c1 c2 s02 s12 s0 s1 hV2 hW2 hkx2 hk2 hk3
    obtain ⟨y0, y1, y2, y3, y4, y5⟩ := seen_cells s03
    obtain ⟨z0, z1, z2, z3, z4, z5⟩ := seen_cells s13
    have f0 := free_of s03
    have f1 := free_of s13
    obtain ⟨c0, c1, c2⟩ := hW3.cells
    go_wp2_with (go_at_call 25; refine (rows_any _ _).mono ?_; rintro e w9 ⟨rfl, rfl⟩)
    go_region
    all_goals go_wp2
    all_goals
      refine bodyPost_ret (v := seenV r ⟨#[109]⟩ (lineAt t p) (colAt t p) 6) (by simp [results, Try.results17, go_sem, seenV, hz3', y0, y1, y2, y3, y4, y5]) rfl ⟨rfl, ?_, ?_, ?_⟩
      · exact hW3.kept (S := [w.heap.size, w.heap.size + 1]) (twelve_kept (p := w.heap.size) (q := w.heap.size + 1) (Kept.refl _ _) (Or.inl (by simp)) (Or.inl (by simp)) _ _ _ _ _ _ _ _ _ _ _ _ _) hbb
      · exact ⟨fs', r3, TabAt.kept hV3 (S := [w.heap.size, w.heap.size + 1]) (twelve_kept (p := w.heap.size) (q := w.heap.size + 1) (Kept.refl _ _) (Or.inl (by simp)) (Or.inl (by simp)) _ _ _ _ _ _ _ _ _ _ _ _ _) hxx, hM'⟩
      · exact twelve_kept (p := w.heap.size) (q := w.heap.size + 1) hkx (Or.inr (Nat.le_refl _)) (Or.inr (by omega)) _ _ _ _ _ _ _ _ _ _ _ _ _
  · simp only [hr, if_true] at HVF ⊢
    have heq := fun (wx : World) => eqFault wx
    go_enter Try.func17, Try.ntmps17
    go_wp2_with fail
    rw [HW.out]
    refine Calls.mono HPF.out ?_
    rintro e w2 ⟨rfl, ⟨r2, hV2⟩, hk2⟩
    have s02 := hk2.get s0 (by simp; omega)
    have s12 := hk2.get s1 (by simp; omega)
    have hW2 : WorldAt w2 b x T := (hW.kept hKW0 (by simp)).kept hk2 (by simp; omega)
    have hkx2 : Kept [x] w w2 := hKW.trans hk2
    obtain ⟨y0, y1, y2, y3, y4, y5⟩ := seen_cells s02
    obtain ⟨z0, z1, z2, z3, z4, z5⟩ := seen_cells s12
    have f0 := free_of s02
    have f1 := free_of s12
    clear c0 c1 c2
    obtain ⟨c0, c1, c2⟩ := hW2.cells
    go_wp2_with (go_at_call 25; refine (rows_any _ _).mono ?_; rintro e w9 ⟨rfl, rfl⟩)
    refine Calls.mono (HVF.out _ r2 (by exact TabAt.kept hV2 (S := [w.heap.size, w.heap.size + 1]) ((Kept.refl _ _).setCell (Or.inl (by simp)) _) hxx)) ?_
    rintro e w3 ⟨rfl, ⟨r3, hV3⟩, hk3⟩
    have s03 := hk3.get ((Below.heap_setCell w2 ⟨w.heap.size + 1, 5, none⟩ (.int .i64 0) w.heap.size (by simp)).trans s02) (by simp; omega)
    have s13 : w3.heap[w.heap.size + 1]? = some (.cells #[.slice none 0 0, .int .i64 0, .string ⟨#[]⟩, .int .i64 0, .int .i64 0, .int .i64 0] 52 (0, 0)) := hk3.get ((block_setCell s12 5 (.int .i64 0)).trans (by simp)) (by simp; omega)
    have hW3 : WorldAt w3 b x T := (hW2.kept (S := [w.heap.size, w.heap.size + 1]) ((Kept.refl _ _).setCell (Or.inl (by simp)) _) hbb).kept hk3 (by simp; omega)
    have hkx : Kept [x] w w3 := (hkx2.setCell (Or.inr (by simp)) _).trans hk3
    have hz3 := lt_of_get s13
    have hz3' := lt_of_get s03
    have hb3 := lt_of_get hW3
    have hx3 := TabAt.lt hV3
    clear y0 y1 y2 y3 y4 y5 z0 z1 z2 z3 z4 z5 f0 f1 c0 c1 c2 s02 s12 s0 s1 hV2 hW2 hkx2 hk2 hk3
    obtain ⟨y0, y1, y2, y3, y4, y5⟩ := seen_cells s03
    obtain ⟨z0, z1, z2, z3, z4, z5⟩ := seen_cells s13
    have f0 := free_of s03
    have f1 := free_of s13
    obtain ⟨c0, c1, c2⟩ := hW3.cells
    go_wp2_with (go_at_call 25; refine (rows_any _ _).mono ?_; rintro e w9 ⟨rfl, rfl⟩)
    go_region
    all_goals go_wp2
    all_goals
      refine bodyPost_ret (v := seenV 0 ⟨#[]⟩ 0 0 0) (by simp [results, Try.results17, go_sem, seenV, hz3', y0, y1, y2, y3, y4, y5]) rfl ⟨rfl, ?_, ?_, ?_⟩
      · exact hW3.kept (S := [w.heap.size, w.heap.size + 1]) (twelve_kept (p := w.heap.size) (q := w.heap.size + 1) (Kept.refl _ _) (Or.inl (by simp)) (Or.inl (by simp)) _ _ _ _ _ _ _ _ _ _ _ _ _) hbb
      · exact ⟨fs', r3, TabAt.kept hV3 (S := [w.heap.size, w.heap.size + 1]) (twelve_kept (p := w.heap.size) (q := w.heap.size + 1) (Kept.refl _ _) (Or.inl (by simp)) (Or.inl (by simp)) _ _ _ _ _ _ _ _ _ _ _ _ _) hxx, hM'⟩
      · exact twelve_kept (p := w.heap.size) (q := w.heap.size + 1) hkx (Or.inr (Nat.le_refl _)) (Or.inr (by omega)) _ _ _ _ _ _ _ _ _ _ _ _ _

end Go.Proofs.Ytkblmflajfomaaa
