/- Package reader: faultOf, readWord (of a word that is no inclusion). -/
import Derived.Test.YtkblmflajfomaaaDb12
import Derived.Test.YtkblmflajfomaaaWords5
import Derived.Test.YtkblmflajfomaaaTable2
namespace Go.Proofs.Ytkblmflajfomaaa
open Go.RowKit

theorem build_fault (w : World) (r l c : Int) (n : ByteArray) : (Instr.build 47 #[(0, .int .i64 r), (1, .agg #[.string n, .int .i64 l, .int .i64 c])]).run Try.prog w = .ok (.agg #[.int .i64 r, .string n, .int .i64 l, .int .i64 c]) w :=
  run_build w 47 _ _ (by kernel_rfl)
theorem build_nofault (w : World) : (Instr.build 47 #[]).run Try.prog w = .ok (.agg #[.int .i64 0, .string ⟨#[]⟩, .int .i64 0, .int .i64 0]) w :=
  run_build w 47 _ _ (by kernel_rfl)
attribute [local go_sem] build_fault build_nofault

/-- A fault: its rule and its place in the data d of file n; rule 0: no place. -/
def faultV (n d : ByteArray) (r : Int) (p : Nat) : Value :=
  if (r == 0) = true then .agg #[.int .i64 0, .string ⟨#[]⟩, .int .i64 0, .int .i64 0] else .agg #[.int .i64 r, .string n, .int .i64 (lineAt d p), .int .i64 (colAt d p)]

set_option maxHeartbeats 400000 in
theorem faultOf_any (t n : ByteArray) (r l c : Int) (f : Bool) (w : World) :
    Calls Try.prog 38 #[.agg #[.string t, .int .i64 r, .bool f, .string n, .int .i64 l, .int .i64 c]] w fun e w' => e = .returned (.agg #[.int .i64 (if f = true then 7 else r), .string n, .int .i64 l, .int .i64 c]) ∧ Kept [] w w' := by
  cases f
  · go_enter Try.func38, Try.ntmps38
    go_wp2
    exact bodyPost_ret (v := .agg #[.int .i64 r, .string n, .int .i64 l, .int .i64 c]) (by simp [results, Try.results38, go_sem]) rfl ⟨rfl, ((Kept.refl _ _).alloc _).alloc _⟩
  · go_enter Try.func38, Try.ntmps38
    go_wp2
    exact bodyPost_ret (v := .agg #[.int .i64 7, .string n, .int .i64 l, .int .i64 c]) (by simp [results, Try.results38, go_sem]) rfl ⟨rfl, ((Kept.refl _ _).alloc _).alloc _⟩

theorem four_after {w w2 : World} {b t F : Nat} {pre post : List Value} {d : Db} {H H2 : Nat → Hd} (D : DbIs w2 b t pre post d H2) (T : Turned b w H w2 H2) (h1 : w.heap.size ≤ F) (h2 : b ≠ F) (h3 : F ∉ blks H2) (a0 a1 a2 a3 : Value) :
    DbIs ((((w2.setCell ⟨F, 0, none⟩ a0).setCell ⟨F, 1, none⟩ a1).setCell ⟨F, 2, none⟩ a2).setCell ⟨F, 3, none⟩ a3) b t pre post d H2 ∧
    Turned b w H ((((w2.setCell ⟨F, 0, none⟩ a0).setCell ⟨F, 1, none⟩ a1).setCell ⟨F, 2, none⟩ a2).setCell ⟨F, 3, none⟩ a3) H2 := by
  have k : Kept [F] w2 ((((w2.setCell ⟨F, 0, none⟩ a0).setCell ⟨F, 1, none⟩ a1).setCell ⟨F, 2, none⟩ a2).setCell ⟨F, 3, none⟩ a3) :=
    ((((Kept.refl _ _).setCell (Or.inl (by simp)) _).setCell (Or.inl (by simp)) _).setCell (Or.inl (by simp)) _).setCell (Or.inl (by simp)) _
  refine ⟨D.kept k (by simpa using h2) (fun x hx => by simp; rintro rfl; exact h3 hx), ?_, T.2⟩
  exact (((T.1.setCell (Or.inr h1) _).setCell (Or.inr h1) _).setCell (Or.inr h1) _).setCell (Or.inr h1) _

theorem fresh_not {w w2 : World} {b : Nat} {H H2 : Nat → Hd} (T : Turned b w H w2 H2) (F : Nat) (h1 : F < w.heap.size) (h2 : F ∉ blks H) : F ∉ blks H2 := by
  intro hm
  rcases T.2 F hm with h | h
  · exact h2 h
  · omega

set_option maxHeartbeats 800000 in
set_option maxRecDepth 100000 in
theorem readWord_any (b t : Nat) (f0 f1 f2 f3 f4 : Value) (d : Db) (H : Nat → Hd) (sp : Value) (x n : ByteArray) (l c : Int) (w : World) (h : DbIs w b t [f0, f1, f2, f3, f4] [] d H) (hs : Small d 100000000) (hx : x.size ≤ 1073741824) (hi : Inner d 100000000)
    (hn : (x.toList == [36, 91]) = false) :
    Calls Try.prog 36 #[.pointer (some ⟨b, 0, none⟩), sp, .agg #[.string x, .int .i64 0, .bool false, .string n, .int .i64 l, .int .i64 c]] w fun e w' =>
      e = .returned (if ((takeF d x).1 == 0) = true then .agg #[.int .i64 0, .string ⟨#[]⟩, .int .i64 0, .int .i64 0] else .agg #[.int .i64 (takeF d x).1, .string n, .int .i64 l, .int .i64 c]) ∧
      ∃ H', DbIs w' b t [f0, f1, f2, f3, f4] [] (takeF d x).2 H' ∧ Turned b w H w' H' := by
  have hbw := h.lt
  have TK := fun (w' : World) (h' : DbIs w' b t [f0, f1, f2, f3, f4] [] d H) => take_any b t 5 [f0, f1, f2, f3, f4] [] d H x w' h' rfl hs hx hi
  have HTK : Hid (∀ (w' : World) (_ : DbIs w' b t [f0, f1, f2, f3, f4] [] d H), Calls Try.prog 42 #[.pointer (some ⟨b, 5, none⟩), .string x] w' fun e w'' => e = .returned (.int .i64 (takeF d x).1) ∧ ∃ H', DbIs w'' b t [f0, f1, f2, f3, f4] [] (takeF d x).2 H' ∧ Turned b w' H w'' H') := TK
  clear TK
  generalize takeF d x = td at *
  obtain ⟨r, d'⟩ := td
  simp only at HTK
  obtain ⟨W, hW⟩ : ∃ W, W = ((w.alloc (.cells #[.string x, .int .i64 0, .bool false, .string n, .int .i64 l, .int .i64 c] 88)).alloc (.cells #[.int .i64 0, .string ⟨#[]⟩, .int .i64 0, .int .i64 0] 47)) := ⟨_, rfl⟩
  have hD : DbIs W b t [f0, f1, f2, f3, f4] [] d H := by rw [hW]; exact h.still (((Kept.refl [] w).alloc _).alloc _)
  have hT : Turned b w H W H := by rw [hW]; exact (Turned.refl _ _ _).still (((Kept.refl [] w).alloc _).alloc _)
  have hI : W.heap[w.heap.size]? = some (.cells #[.string x, .int .i64 0, .bool false, .string n, .int .i64 l, .int .i64 c] 88 (0, 0)) := by
    rw [hW]; exact ((Kept.refl [] _).alloc _).get (heap_alloc_new _ _) (by simp)
  have hF : W.heap[w.heap.size + 1]? = some (.cells #[.int .i64 0, .string ⟨#[]⟩, .int .i64 0, .int .i64 0] 47 (0, 0)) := by
    rw [hW]
    have := heap_alloc_new (w.alloc (.cells #[.string x, .int .i64 0, .bool false, .string n, .int .i64 l, .int .i64 c] 88)) (.cells #[.int .i64 0, .string ⟨#[]⟩, .int .i64 0, .int .i64 0] 47)
    simpa using this
  have hno : ∀ k, w.heap.size ≤ k → k ∉ b :: blks H := by
    intro k hk hm
    rcases List.mem_cons.1 hm with e | hm
    · omega
    · obtain ⟨i, hi, e⟩ := mem_blks.1 hm
      have := (h.own i hi).lt e
      omega
  have HW : Hid (((w.alloc (.cells #[.string x, .int .i64 0, .bool false, .string n, .int .i64 l, .int .i64 c] 88)).alloc (.cells #[.int .i64 0, .string ⟨#[]⟩, .int .i64 0, .int .i64 0] 47)) = W) := hW.symm
  have HNO : Hid (∀ k, w.heap.size ≤ k → k ∉ b :: blks H) := hno
  clear hW hno h
  cases hr : (r == 0)
  · have hr' : (r != 0) = true := by simp [bne, hr]
    simp only [Bool.false_eq_true, if_false]
    go_enter Try.func36, Try.ntmps36
    go_wp2_with fail
    rw [HW.out]
    have i0 : W.cell? ⟨w.heap.size, 0, none⟩ = some (.string x) := by rw [cell_of hI]; rfl
    go_region_with (go_at_call 42; refine (HTK.out _ (by exact hD.still (Kept.refl [] _).drew)).mono ?_; rintro e w2 ⟨rfl, H2, D2, T2⟩)
    all_goals
      have hI2 := T2.1.get (by exact hI) (HNO.out _ (Nat.le_refl _))
      have hF2 := T2.1.get (by exact hF) (HNO.out _ (by omega))
      have hnF := fresh_not T2 (w.heap.size + 1) (by exact lt_of_get hF) (fun hm => HNO.out (w.heap.size + 1) (by omega) (List.mem_cons.2 (Or.inr hm)))
      have HA := fun a0 a1 a2 a3 => four_after D2 (hT.trans (T2.first (Kept.refl [] _).drew)) (F := w.heap.size + 1) (by omega) (by omega) hnF a0 a1 a2 a3
      have HA' := (show Hid _ from HA)
      clear HA hnF
      have i3 : w2.cell? ⟨w.heap.size, 3, none⟩ = some (.string n) := by rw [cell_of hI2]; rfl
      have i4 : w2.cell? ⟨w.heap.size, 4, none⟩ = some (.int .i64 l) := by rw [cell_of hI2]; rfl
      have i5 : w2.cell? ⟨w.heap.size, 5, none⟩ = some (.int .i64 c) := by rw [cell_of hI2]; rfl
      have j0 : w2.cell? ⟨w.heap.size + 1, 0, none⟩ = some (.int .i64 0) := by rw [cell_of hF2]; rfl
      have j1 : w2.cell? ⟨w.heap.size + 1, 1, none⟩ = some (.string ⟨#[]⟩) := by rw [cell_of hF2]; rfl
      have j2 : w2.cell? ⟨w.heap.size + 1, 2, none⟩ = some (.int .i64 0) := by rw [cell_of hF2]; rfl
      have j3 : w2.cell? ⟨w.heap.size + 1, 3, none⟩ = some (.int .i64 0) := by rw [cell_of hF2]; rfl
      have y := free_of hF2
      go_wp2
      exact bodyPost_ret (v := .agg #[.int .i64 r, .string n, .int .i64 l, .int .i64 c]) (by simp [results, Try.results36, go_sem, j0, j1, j2, j3]) rfl
        ⟨rfl, H2, (HA'.out _ _ _ _).1, (HA'.out _ _ _ _).2⟩
  · have hr' : (r != 0) = false := by simp [bne, hr]
    simp only [if_true]
    go_enter Try.func36, Try.ntmps36
    go_wp2_with fail
    rw [HW.out]
    have i0 : W.cell? ⟨w.heap.size, 0, none⟩ = some (.string x) := by rw [cell_of hI]; rfl
    go_region_with (go_at_call 42; refine (HTK.out _ (by exact hD.still (Kept.refl [] _).drew)).mono ?_; rintro e w2 ⟨rfl, H2, D2, T2⟩)
    all_goals
      have hI2 := T2.1.get (by exact hI) (HNO.out _ (Nat.le_refl _))
      have hF2 := T2.1.get (by exact hF) (HNO.out _ (by omega))
      have hnF := fresh_not T2 (w.heap.size + 1) (by exact lt_of_get hF) (fun hm => HNO.out (w.heap.size + 1) (by omega) (List.mem_cons.2 (Or.inr hm)))
      have HA := fun a0 a1 a2 a3 => four_after D2 (hT.trans (T2.first (Kept.refl [] _).drew)) (F := w.heap.size + 1) (by omega) (by omega) hnF a0 a1 a2 a3
      have HA' := (show Hid _ from HA)
      clear HA hnF
      have j0 : w2.cell? ⟨w.heap.size + 1, 0, none⟩ = some (.int .i64 0) := by rw [cell_of hF2]; rfl
      have j1 : w2.cell? ⟨w.heap.size + 1, 1, none⟩ = some (.string ⟨#[]⟩) := by rw [cell_of hF2]; rfl
      have j2 : w2.cell? ⟨w.heap.size + 1, 2, none⟩ = some (.int .i64 0) := by rw [cell_of hF2]; rfl
      have j3 : w2.cell? ⟨w.heap.size + 1, 3, none⟩ = some (.int .i64 0) := by rw [cell_of hF2]; rfl
      have y := free_of hF2
      go_wp2
      exact bodyPost_ret (v := .agg #[.int .i64 0, .string ⟨#[]⟩, .int .i64 0, .int .i64 0]) (by simp [results, Try.results36, go_sem, j0, j1, j2, j3]) rfl
        ⟨rfl, H2, (HA'.out _ _ _ _).1, (HA'.out _ _ _ _).2⟩

end Go.Proofs.Ytkblmflajfomaaa
