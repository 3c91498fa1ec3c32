import Derived.Test.YtcipkfhpcbddiaaGreatQSeeC
/- Package metaproofkeep: see, and the report that it leaves. -/
namespace Go.Proofs.YtcipkfhpcbddiaaGreat
open Go.RowKit
attribute [local go_sem] build_nofault

/-- And the report. -/
def RptFresh (w w' : World) (x : Nat) (fs' : List (ByteArray × ByteArray)) (l : List St) : Prop := ∃ H g, RptAt w' x fs' l H g ∧ w.heap.size ≤ g ∧ ∀ k, InH H k → w.heap.size ≤ k
def CoreSaysR (b x : Nat) (T : ByteArray) (o : Option Nat) (fs' : List (ByteArray × ByteArray)) (r ln cl : Int) (l : List St) (w : World) (e : Ending) (w' : World) : Prop :=
  CoreSays b x T o fs' r ln cl l w e w' ∧ ((r == 0) = true → RptFresh w w' x fs' l)

set_option maxHeartbeats 3000000 in
set_option maxRecDepth 100000 in
theorem see_coreR (b x : Nat) (T t : ByteArray) (o : Option Nat) (fs fs' : List (ByteArray × ByteArray)) (r ln cl : Int) (l : List St) (w : World) (hW : WorldAt w b x T o) (hV : SomeAt w x fs) (hx : x ≠ b) (ht : ¬ 1024 < t.size) (hp : putF fs ⟨#[109]⟩ t = (0, fs')) (hlen : l.length ≤ 10000)
    (VF : ∀ w', SomeAt w' x fs' → Calls Tryz.prog 15 #[.pointer (some ⟨x, 0, none⟩), .string ⟨#[109]⟩] w' fun e w'' =>
      (if (r == 0) = true then e = .returned (.tuple #[.agg #[.int .i64 0, .string ⟨#[]⟩, .int .i64 0, .int .i64 0], .int .i64 0]) ∧ ∃ H g, RptAt w'' x fs' l H g ∧ w'.heap.size ≤ g ∧ ∀ k, InH H k → w'.heap.size ≤ k
       else e = .returned (.tuple #[.agg #[.int .i64 r, .string ⟨#[109]⟩, .int .i64 ln, .int .i64 cl], .int .i64 6]) ∧ BareAt w'' x fs') ∧ Kept [x] w' w'') :
    Calls Tryz.prog 18 #[.pointer (some ⟨b, 0, none⟩), .string t] w fun e w' => CoreSaysR b x T o fs' r ln cl l w e w' := by
  have hbw := hW.lt
  have hxw := hV.lt
  obtain ⟨c0, c1, -⟩ := hW.cells
  obtain ⟨W, hWW⟩ : ∃ W, W = (w.alloc (.cells #[.slice none 0 0, .int .i64 0, .string ⟨#[]⟩, .int .i64 0, .int .i64 0, .int .i64 0] 52)).alloc (.cells #[.slice none 0 0, .int .i64 0, .string ⟨#[]⟩, .int .i64 0, .int .i64 0, .int .i64 0] 52) := ⟨_, rfl⟩
  have hKW0 : Kept [] w W := by rw [hWW]; exact ((Kept.refl _ _).alloc _).alloc _
  have s0 : W.heap[w.heap.size]? = some (.cells #[.slice none 0 0, .int .i64 0, .string ⟨#[]⟩, .int .i64 0, .int .i64 0, .int .i64 0] 52 (0, 0)) := by
    rw [hWW]; exact ((Kept.refl [] _).alloc _).get (heap_alloc_new _ _) (by simp)
  have s1 : W.heap[w.heap.size + 1]? = some (.cells #[.slice none 0 0, .int .i64 0, .string ⟨#[]⟩, .int .i64 0, .int .i64 0, .int .i64 0] 52 (0, 0)) := by
    rw [hWW]
    have e : (w.alloc (.cells #[.slice none 0 0, .int .i64 0, .string ⟨#[]⟩, .int .i64 0, .int .i64 0, .int .i64 0] 52)).heap.size = w.heap.size + 1 := by simp
    rw [← e]; exact heap_alloc_new _ _
  have HW := (show Hid _ from hWW.symm)
  have PF := vput_any x ⟨#[109]⟩ t fs W (hV.kept hKW0 (by simp)) (by simp [ByteArray.size]) (by omega)
  rw [hp] at PF
  have HPF := (show Hid _ from PF)
  have HVF := (show Hid _ from VF)
  clear PF hWW hp VF
  have hne1 : w.heap.size ≠ x := by omega
  have hne2 : w.heap.size + 1 ≠ x := by omega
  have hxx : x ∉ [w.heap.size, w.heap.size + 1] := by simp; omega
  have hbb : b ∉ [w.heap.size, w.heap.size + 1] := by simp; omega
  have hzz := hW.rows.lt
  have HGG : Hid (∀ g, o = some g → g ∉ [w.heap.size, w.heap.size + 1]) := fun g hg => by have := hzz g hg; simp; omega
  clear hzz
  have hsn := fun (wx : World) => Lib.run_eql_slice_nil (P := Tryz.prog) wx 44 59 none 0 0 0 0 Tryz.underlying44
  have HWk : Hid (WorldAt W b x T o) := hW.still hKW0
  clear hW
  go_enter Tryz.func18, Tryz.ntmps18
  go_wp2_with fail
  rw [HW.out]
  refine Calls.mono HPF.out ?_
  rintro e w2 ⟨rfl, -, hB2, hk2⟩
  have hB2 := hB2 trivial
  have s02 := hk2.get s0 (by simp; omega)
  have s12 := hk2.get s1 (by simp; omega)
  have HW2 : Hid (WorldAt w2 b x T o) := HWk.out.keptX hk2 hx
  have hkx2 : Kept [x] w w2 := (hKW0.mono (by simp)).trans hk2
  obtain ⟨y0, y1, y2, y3, y4, y5⟩ := seen_cells s02
  obtain ⟨z0, z1, z2, z3, z4, z5⟩ := seen_cells s12
  have f0 := free_of s02
  have f1 := free_of s12
  clear c0 c1
  obtain ⟨c0, c1, -⟩ := HW2.out.cells
  have hbw2 := HW2.out.lt
  have hs2 := hk2.size
  have hWs := lt_of_get s1
  have B2' : Hid (∀ v, BareAt (w2.setCell ⟨w.heap.size + 1, 5, none⟩ v) x fs') := fun v => hB2.kept (S := [w.heap.size, w.heap.size + 1]) ((Kept.refl _ _).setCell (Or.inl (by simp)) _) hxx
  go_wp2_with (go_at_call 30; refine (vrows_bare x fs' _ (by exact B2'.out _)).mono ?_; rintro e w9 ⟨rfl, rfl⟩)
  refine Calls.mono (HVF.out _ (by exact (B2'.out _).anyR)) ?_
  rintro e w3 ⟨hcase, hk3⟩
  have s03 := hk3.get ((Below.heap_setCell w2 ⟨w.heap.size + 1, 5, none⟩ (.int .i64 0) w.heap.size (by simp)).trans s02) (by simp; omega)
  have s13 : w3.heap[w.heap.size + 1]? = some (.cells #[.slice none 0 0, .int .i64 0, .string ⟨#[]⟩, .int .i64 0, .int .i64 0, .int .i64 0] 52 (0, 0)) := hk3.get ((block_setCell s12 5 (.int .i64 0)).trans (by simp)) (by simp; omega)
  have HW3 : Hid (WorldAt w3 b x T o) := (HW2.out.kept (S := [w.heap.size, w.heap.size + 1]) ((Kept.refl _ _).setCell (Or.inl (by simp)) _) hbb HGG.out).keptX hk3 hx
  have hkx : Kept [x] w w3 := (hkx2.setCell (Or.inr (by simp)) _).trans hk3
  have hz3 := lt_of_get s13
  have hz3' := lt_of_get s03
  have hb3 := HW3.out.lt
  clear y0 y1 y2 y3 y4 y5 z0 z1 z2 z3 z4 z5 f0 f1 c0 c1 s02 s12 s0 s1 hkx2 hk2 hk3 B2' hB2
  obtain ⟨y0, y1, y2, y3, y4, y5⟩ := seen_cells s03
  obtain ⟨z0, z1, z2, z3, z4, z5⟩ := seen_cells s13
  have f0 := free_of s03
  have f1 := free_of s13
  obtain ⟨c0, c1, -⟩ := HW3.out.cells
  cases hr : (r == 0)
  · simp only [hr, Bool.false_eq_true, if_false] at hcase
    obtain ⟨rfl, hB3⟩ := hcase
    have hr' : (r != 0) = true := by simp [bne, hr]
    have HB : Hid (∀ a0 a1 a2 a3 a4 ob, BareAt ((((((w3.setCell ⟨w.heap.size + 1, 1, none⟩ a0).setCell ⟨w.heap.size + 1, 2, none⟩ a1).setCell ⟨w.heap.size + 1, 3, none⟩ a2).setCell ⟨w.heap.size + 1, 4, none⟩ a3).setCell ⟨w.heap.size + 1, 5, none⟩ a4).alloc ob) x fs') := fun a0 a1 a2 a3 a4 ob => hB3.kept (five_kept (Kept.refl [w.heap.size, w.heap.size + 1] w3) (Or.inl (by simp)) _ _ _ _ _ _) hxx
    go_wp2_with (go_at_call 30; refine (vrows_bare x fs' _ (by exact HB.out _ _ _ _ _ _)).mono ?_; rintro e w9 ⟨rfl, rfl⟩)
    go_region
    all_goals go_wp2
    all_goals
      refine bodyPost_ret (v := seenV (.slice none 0 0) r ⟨#[109]⟩ ln cl 6) (by simp [results, Tryz.results18, go_sem, seenV, hz3', y0, y1, y2, y3, y4, y5]) rfl ?_
      refine ⟨core_bad hr ?_ ?_ ?_, fun h => by rw [hr] at h; cases h⟩
      · exact HW3.out.kept (S := [w.heap.size, w.heap.size + 1]) (twelve_kept (p := w.heap.size) (q := w.heap.size + 1) (Kept.refl _ _) (Or.inl (by simp)) (Or.inl (by simp)) _ _ _ _ _ _ _ _ _ _ _ _ _) hbb HGG.out
      · exact hB3.anyR.kept (S := [w.heap.size, w.heap.size + 1]) (twelve_kept (p := w.heap.size) (q := w.heap.size + 1) (Kept.refl _ _) (Or.inl (by simp)) (Or.inl (by simp)) _ _ _ _ _ _ _ _ _ _ _ _ _) hxx
      · exact twelve_kept (p := w.heap.size) (q := w.heap.size + 1) hkx (Or.inr (Nat.le_refl _)) (Or.inr (by omega)) _ _ _ _ _ _ _ _ _ _ _ _ _
  · simp only [hr, if_true] at hcase
    obtain ⟨rfl, H, g, hR3, hg3, hH3⟩ := hcase
    simp only [World.size_setCell] at hg3 hH3
    have hgn : g ∉ [w.heap.size, w.heap.size + 1] := by simp; omega
    have HHn : Hid (∀ k, InH H k → k ∉ [w.heap.size, w.heap.size + 1]) := fun k hk => by have := hH3 k hk; simp; omega
    have heq := fun (wx : World) => eqFault wx
    go_wp2_with fail
    refine (vrows_any x fs' l H g _ (by exact hR3.kept (five_kept (Kept.refl [w.heap.size, w.heap.size + 1] w3) (Or.inl (by simp)) _ _ _ _ _ _) hxx hgn HHn.out) hlen).mono ?_
    rintro e w9 ⟨ob, rfl, hO9, hf9, hk9⟩
    obtain ⟨ao, n9, cp9, hrs⟩ := rowsSl_is ob (rowsF l).length
    rw [hrs]
    have s19 := hk9.get (five_block s13 _ _ _ _ _ _) (by simp)
    have s09 := hk9.get ((five_kept (Kept.refl [w.heap.size + 1] w3) (Or.inl (by simp)) _ _ _ _ _ _).get s03 (by simp)) (by simp)
    have K9 : Kept [x] w w9 := (five_kept hkx (Or.inr (by omega)) _ _ _ _ _ _).trans (hk9.mono (by simp))
    have HW9 : Hid (WorldAt w9 b x T o) := (HW3.out.kept (five_kept (Kept.refl [w.heap.size, w.heap.size + 1] w3) (Or.inl (by simp)) _ _ _ _ _ _) hbb HGG.out).still hk9
    have HV9 : Hid (SomeAt w9 x fs') := (hR3.anyR.kept (five_kept (Kept.refl [w.heap.size, w.heap.size + 1] w3) (Or.inl (by simp)) _ _ _ _ _ _) hxx).kept hk9 (by simp)
    have HO9 : Hid (RowsAt w9 ob (rowsF l)) := hO9
    have HR9 : Hid (RptAt w9 x fs' l H g) := (hR3.kept (five_kept (Kept.refl [w.heap.size, w.heap.size + 1] w3) (Or.inl (by simp)) _ _ _ _ _ _) hxx hgn HHn.out).still hk9
    have HFR : Hid (w.heap.size ≤ g ∧ ∀ k, InH H k → w.heap.size ≤ k) := ⟨by omega, fun k hk => by have := hH3 k hk; omega⟩
    have HF9 : Hid (∀ g, ob = some g → w.heap.size + 2 ≤ g) := fun g hg => by have := hf9 g hg; simp at this; omega
    have HRS := (show Hid _ from hrs)
    clear y0 y1 y2 y3 y4 y5 z0 z1 z2 z3 z4 z5 f0 f1 c0 c1 s03 s13 hkx hk9 hO9 hf9 hrs hR3
    obtain ⟨y0, y1, y2, y3, y4, y5⟩ := seen_cells s09
    obtain ⟨z0, z1, z2, z3, z4, z5⟩ := seen_cells s19
    have f0 := free_of s09
    have f1 := free_of s19
    have hz9 := lt_of_get s19
    have hz9' := lt_of_get s09
    go_wp2_with fail
    go_region
    all_goals go_wp2
    all_goals
      refine bodyPost_ret (v := seenV (.slice ao n9 cp9) 0 ⟨#[]⟩ 0 0 0) (by simp [results, Tryz.results18, go_sem, seenV, y0, y1, y2, y3, y4, y5]) rfl ?_
      refine ⟨core_good hr (ob := ob) HRS.out ?_ (fun g hg => by have := HF9.out g hg; omega) ?_ ?_ ?_, fun _ => ⟨H, g, HR9.out.kept (S := [w.heap.size, w.heap.size + 1]) (seven_kept (p := w.heap.size) (q := w.heap.size + 1) (Kept.refl _ _) (Or.inl (by simp)) (Or.inl (by simp)) _ _ _ _ _ _ _) hxx hgn HHn.out, HFR.out⟩⟩
      · exact RowsAt.kept HO9.out (S := [w.heap.size, w.heap.size + 1]) (seven_kept (p := w.heap.size) (q := w.heap.size + 1) (Kept.refl _ _) (Or.inl (by simp)) (Or.inl (by simp)) _ _ _ _ _ _ _) (fun g hg => by have := HF9.out g hg; simp; omega)
      · exact HW9.out.kept (S := [w.heap.size, w.heap.size + 1]) (seven_kept (p := w.heap.size) (q := w.heap.size + 1) (Kept.refl _ _) (Or.inl (by simp)) (Or.inl (by simp)) _ _ _ _ _ _ _) hbb HGG.out
      · exact HV9.out.kept (S := [w.heap.size, w.heap.size + 1]) (seven_kept (p := w.heap.size) (q := w.heap.size + 1) (Kept.refl _ _) (Or.inl (by simp)) (Or.inl (by simp)) _ _ _ _ _ _ _) hxx
      · exact seven_kept (p := w.heap.size) (q := w.heap.size + 1) K9 (Or.inr (Nat.le_refl _)) (Or.inr (by omega)) _ _ _ _ _ _ _


end Go.Proofs.YtcipkfhpcbddiaaGreat
