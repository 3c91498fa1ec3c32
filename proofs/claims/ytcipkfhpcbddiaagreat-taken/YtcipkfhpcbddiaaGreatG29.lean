/- Our texts: FrT, SeeC, SeeR, KeepR, PuU, PuV, PuP. -/
import Derived.Test.YtcipkfhpcbddiaaGreatG20
import Derived.Test.YtcipkfhpcbddiaaGreatG21
import Derived.Test.YtcipkfhpcbddiaaGreatG22
import Derived.Test.YtcipkfhpcbddiaaGreatG23
/- The verifier: Frame. -/
namespace Go.Proofs.YtcipkfhpcbddiaaGreat
open Go.RowKit

theorem RptAt.recd {w : World} {x : Nat} {fs : List (ByteArray × ByteArray)} {l : List St} {H : Nat → Hd} {g : Nat} (h : RptAt w x fs l H g) : RecAt w x 10 l H := by
  obtain ⟨a7, n7, c7, hv⟩ := h.ver
  exact ⟨⟨_, _, hv.1, rfl⟩, h.sts⟩

theorem rfind_any (b o : Nat) (lab : ByteArray) (l : List St) (H : Nat → Hd) (w : World) (h : RecAt w b o l H) (hl : l.length ≤ 1073741824) :
    Calls Tryz.prog 47 #[.pointer (some ⟨b, o, none⟩), .string lab] w fun e w' => e = .returned (.int .i64 (optV (findAF l lab))) ∧ Kept [] w w' := by
  have HFA := (show Hid _ from findAssertion_any b o lab l H w h hl)
  go_enter Tryz.func47, Tryz.ntmps47
  go_wp2_with fail
  refine Calls.mono HFA.out ?_
  rintro e w1 ⟨rfl, k1⟩
  go_wp2
  go_ret
  exact ⟨rfl, k1⟩

set_option maxHeartbeats 1000000 in
theorem rframe_any (b o a : Nat) (l : List St) (H : Nat → Hd) (w : World) (h : RecAt w b o l H) (ha : a < l.length) (ok : RecOk l) (hz : SzsOk l) (hka : l[a].kind ≠ 1) :
    Calls Tryz.prog 39 #[.pointer (some ⟨b, o, none⟩), .int .i64 a] w fun e w' => ∃ g, e = .returned (.slice (some ⟨g, 0, none⟩) (linesF l a).length (linesF l a).length) ∧ LnsAt w' g (linesF l a) (linesF l a).length ∧ w.heap.size ≤ g ∧ Kept [] w w' := by
  have HFA := (show Hid _ from lines_any' b o a l H w h ha ok hz hka)
  go_enter Tryz.func39, Tryz.ntmps39
  go_wp2_with fail
  refine Calls.mono HFA.out ?_
  rintro e w1 ⟨g, rfl, h1, h2, k1⟩
  go_wp2
  go_ret
  exact ⟨g, rfl, h1, h2, k1⟩

set_option maxHeartbeats 1000000 in
theorem vfind_any (x : Nat) (fs : List (ByteArray × ByteArray)) (l : List St) (H : Nat → Hd) (g : Nat) (lab : ByteArray) (w : World) (h : RptAt w x fs l H g) (hl : l.length ≤ 1073741824) :
    Calls Tryz.prog 38 #[.pointer (some ⟨x, 0, none⟩), .string lab] w fun e w' => e = .returned (match findAF l lab with | some n => .tuple #[.int .i64 n, .int .i64 0] | none => .tuple #[.int .i64 0, .int .i64 8]) ∧ Kept [] w w' := by
  have HFA := (show Hid _ from rfind_any x 10 lab l H w h.recd hl)
  obtain ⟨a7, n7, c7, hv⟩ := h.ver
  obtain ⟨c9, c10, c11, c12⟩ := VerAt.cells hv
  have hxw := TabAt.lt hv
  cases hf : findAF l lab with
  | none =>
    rw [hf] at HFA
    simp only [optV] at HFA
    go_enter Tryz.func38, Tryz.ntmps38
    go_wp2_with fail
    refine Calls.mono HFA.out ?_
    rintro e w1 ⟨rfl, k1⟩
    go_wp2
    go_ret2
    exact ⟨rfl, k1⟩
  | some n =>
    rw [hf] at HFA
    simp only [optV] at HFA
    have hn0 : ¬ (n : Int) < 0 := by omega
    go_enter Tryz.func38, Tryz.ntmps38
    go_wp2_with fail
    refine Calls.mono HFA.out ?_
    rintro e w1 ⟨rfl, k1⟩
    go_wp2
    go_ret2
    exact ⟨rfl, k1⟩

/-- What Frame answers. -/
def FrameSays (l : List St) (lab : ByteArray) (w : World) (e : Ending) (w' : World) : Prop :=
  Kept [] w w' ∧ match findAF l lab with
    | some n => ∃ g, e = .returned (.tuple #[.slice (some ⟨g, 0, none⟩) (linesF l n).length (linesF l n).length, .int .i64 0]) ∧ LnsAt w' g (linesF l n) (linesF l n).length ∧ w.heap.size ≤ g
    | none => e = .returned (.tuple #[.slice none 0 0, .int .i64 8])
theorem findA_lt {l : List St} {lab : ByteArray} {n : Nat} (h : findAF l lab = some n) : ∃ h : n < l.length, isA l[n].kind = true ∧ l[n].label.toList = lab.toList := by
  unfold findAF at h
  have hm := List.mem_range.1 (List.mem_of_find?_eq_some h)
  have hs := List.find?_some h
  rw [namesA_eq l lab n hm] at hs
  simp only [Bool.and_eq_true] at hs
  exact ⟨hm, hs.2, by simpa using hs.1⟩

set_option maxHeartbeats 1000000 in
theorem vframe_any (x : Nat) (fs : List (ByteArray × ByteArray)) (l : List St) (H : Nat → Hd) (g : Nat) (lab : ByteArray) (w : World) (h : RptAt w x fs l H g) (ok : RecOk l) (hz : SzsOk l) :
    Calls Tryz.prog 28 #[.pointer (some ⟨x, 0, none⟩), .string lab] w fun e w' => FrameSays l lab w e w' := by
  have hlen := ok.len
  have VF := vfind_any x fs l H g lab w h (by omega)
  have hxw := TabAt.lt (Classical.choose_spec (Classical.choose_spec (Classical.choose_spec h.ver)))
  unfold FrameSays
  cases hf : findAF l lab with
  | none =>
    rw [hf] at VF
    have HVF := (show Hid _ from VF)
    clear VF
    go_enter Tryz.func28, Tryz.ntmps28
    go_wp2_with fail
    refine Calls.mono HVF.out ?_
    rintro e w1 ⟨rfl, k1⟩
    go_wp2
    go_ret2
    exact ⟨k1, rfl⟩
  | some n =>
    rw [hf] at VF
    obtain ⟨hn, ha, -⟩ := findA_lt hf
    have hk1 : l[n].kind ≠ 1 := by intro e; rw [e] at ha; revert ha; decide
    have HVF := (show Hid _ from VF)
    clear VF
    go_enter Tryz.func28, Tryz.ntmps28
    go_wp2_with fail
    refine Calls.mono HVF.out ?_
    rintro e w1 ⟨rfl, k1⟩
    have hr1 := (h.still k1).recd
    have hx1 := hr1.lt
    go_wp2_with fail
    refine (rframe_any x 10 n l H w1 hr1 hn ok hz hk1).mono ?_
    rintro e w2 ⟨g2, rfl, h2, h3, k2⟩
    have hs := k1.size
    go_wp2
    go_ret2
    exact ⟨k1.trans k2, g2, rfl, h2, by omega⟩

end Go.Proofs.YtcipkfhpcbddiaaGreat

/- Package metaproofkeep: see, whatever Verify says. -/
namespace Go.Proofs.YtcipkfhpcbddiaaGreat
open Go.RowKit
attribute [local go_sem] build_nofault

/-- What see leaves: the rule, the place, the record; the table. -/
def CoreSays (b x : Nat) (T : ByteArray) (o : Option Nat) (fs' : List (ByteArray × ByteArray)) (r ln cl : Int) (l : List St) (w : World) (e : Ending) (w' : World) : Prop :=
  ∃ o', e = .returned (if (r == 0) = true then seenV (rowsSl o' (rowsF l).length) 0 ⟨#[]⟩ 0 0 0 else seenV (.slice none 0 0) r ⟨#[109]⟩ ln cl 6) ∧ ((r == 0) = true → RowsAt w' o' (rowsF l)) ∧ (∀ g, o' = some g → w.heap.size ≤ g) ∧ WorldAt w' b x T o ∧ SomeAt w' x fs' ∧ Kept [x] w w'
theorem core_bad {b x : Nat} {T : ByteArray} {o : Option Nat} {fs' : List (ByteArray × ByteArray)} {r ln cl : Int} {l : List St} {w w' : World} (hr : (r == 0) = false) (hW : WorldAt w' b x T o) (hF : SomeAt w' x fs') (hK : Kept [x] w w') :
    CoreSays b x T o fs' r ln cl l w (.returned (seenV (.slice none 0 0) r ⟨#[109]⟩ ln cl 6)) w' := by
  refine ⟨none, ?_, fun h => ?_, fun g h => (by cases h), hW, hF, hK⟩
  · rw [if_neg (by rw [hr]; simp)]
  · rw [hr] at h; cases h
theorem core_good {b x : Nat} {T : ByteArray} {o ob : Option Nat} {fs' : List (ByteArray × ByteArray)} {r ln cl : Int} {l : List St} {w w' : World} {rv : Value} (hr : (r == 0) = true) (hv : rowsSl ob (rowsF l).length = rv) (hR : RowsAt w' ob (rowsF l)) (hg : ∀ g, ob = some g → w.heap.size ≤ g) (hW : WorldAt w' b x T o) (hF : SomeAt w' x fs') (hK : Kept [x] w w') :
    CoreSays b x T o fs' r ln cl l w (.returned (seenV rv 0 ⟨#[]⟩ 0 0 0)) w' := by
  refine ⟨ob, ?_, fun _ => hR, hg, hW, hF, hK⟩
  rw [if_pos hr, hv]

set_option maxHeartbeats 3000000 in
set_option maxRecDepth 100000 in
theorem see_core (b x : Nat) (T t : ByteArray) (o : Option Nat) (fs fs' : List (ByteArray × ByteArray)) (r ln cl : Int) (l : List St) (w : World) (hW : WorldAt w b x T o) (hV : SomeAt w x fs) (hx : x ≠ b) (ht : ¬ 1024 < t.size) (hp : putF fs ⟨#[109]⟩ t = (0, fs')) (hlen : l.length ≤ 10000)
    (VF : ∀ w', SomeAt w' x fs' → Calls Tryz.prog 15 #[.pointer (some ⟨x, 0, none⟩), .string ⟨#[109]⟩] w' fun e w'' =>
      (if (r == 0) = true then e = .returned (.tuple #[.agg #[.int .i64 0, .string ⟨#[]⟩, .int .i64 0, .int .i64 0], .int .i64 0]) ∧ ∃ H g, RptAt w'' x fs' l H g ∧ w'.heap.size ≤ g ∧ ∀ k, InH H k → w'.heap.size ≤ k
       else e = .returned (.tuple #[.agg #[.int .i64 r, .string ⟨#[109]⟩, .int .i64 ln, .int .i64 cl], .int .i64 6]) ∧ BareAt w'' x fs') ∧ Kept [x] w' w'') :
    Calls Tryz.prog 18 #[.pointer (some ⟨b, 0, none⟩), .string t] w fun e w' => CoreSays b x T o fs' r ln cl l w e w' := by
  have hbw := hW.lt
  have hxw := hV.lt
  obtain ⟨c0, c1, -⟩ := hW.cells
  obtain ⟨W, hWW⟩ : ∃ W, W = (w.alloc (.cells #[.slice none 0 0, .int .i64 0, .string ⟨#[]⟩, .int .i64 0, .int .i64 0, .int .i64 0] 52)).alloc (.cells #[.slice none 0 0, .int .i64 0, .string ⟨#[]⟩, .int .i64 0, .int .i64 0, .int .i64 0] 52) := ⟨_, rfl⟩
  have hKW0 : Kept [] w W := by rw [hWW]; exact ((Kept.refl _ _).alloc _).alloc _
  have s0 : W.heap[w.heap.size]? = some (.cells #[.slice none 0 0, .int .i64 0, .string ⟨#[]⟩, .int .i64 0, .int .i64 0, .int .i64 0] 52 (0, 0)) := by
    rw [hWW]; exact ((Kept.refl [] _).alloc _).get (heap_alloc_new _ _) (by simp)
  have s1 : W.heap[w.heap.size + 1]? = some (.cells #[.slice none 0 0, .int .i64 0, .string ⟨#[]⟩, .int .i64 0, .int .i64 0, .int .i64 0] 52 (0, 0)) := by
    rw [hWW]
    have e : (w.alloc (.cells #[.slice none 0 0, .int .i64 0, .string ⟨#[]⟩, .int .i64 0, .int .i64 0, .int .i64 0] 52)).heap.size = w.heap.size + 1 := by simp
    rw [← e]; exact heap_alloc_new _ _
  have HW := (show Hid _ from hWW.symm)
  have PF := vput_any x ⟨#[109]⟩ t fs W (hV.kept hKW0 (by simp)) (by simp [ByteArray.size]) (by omega)
  rw [hp] at PF
  have HPF := (show Hid _ from PF)
  have HVF := (show Hid _ from VF)
  clear PF hWW hp VF
  have hne1 : w.heap.size ≠ x := by omega
  have hne2 : w.heap.size + 1 ≠ x := by omega
  have hxx : x ∉ [w.heap.size, w.heap.size + 1] := by simp; omega
  have hbb : b ∉ [w.heap.size, w.heap.size + 1] := by simp; omega
  have hzz := hW.rows.lt
  have HGG : Hid (∀ g, o = some g → g ∉ [w.heap.size, w.heap.size + 1]) := fun g hg => by have := hzz g hg; simp; omega
  clear hzz
  have hsn := fun (wx : World) => Lib.run_eql_slice_nil (P := Tryz.prog) wx 44 59 none 0 0 0 0 Tryz.underlying44
  have HWk : Hid (WorldAt W b x T o) := hW.still hKW0
  clear hW
  go_enter Tryz.func18, Tryz.ntmps18
  go_wp2_with fail
  rw [HW.out]
  refine Calls.mono HPF.out ?_
  rintro e w2 ⟨rfl, -, hB2, hk2⟩
  have hB2 := hB2 trivial
  have s02 := hk2.get s0 (by simp; omega)
  have s12 := hk2.get s1 (by simp; omega)
  have HW2 : Hid (WorldAt w2 b x T o) := HWk.out.keptX hk2 hx
  have hkx2 : Kept [x] w w2 := (hKW0.mono (by simp)).trans hk2
  obtain ⟨y0, y1, y2, y3, y4, y5⟩ := seen_cells s02
  obtain ⟨z0, z1, z2, z3, z4, z5⟩ := seen_cells s12
  have f0 := free_of s02
  have f1 := free_of s12
  clear c0 c1
  obtain ⟨c0, c1, -⟩ := HW2.out.cells
  have hbw2 := HW2.out.lt
  have hs2 := hk2.size
  have hWs := lt_of_get s1
  have B2' : Hid (∀ v, BareAt (w2.setCell ⟨w.heap.size + 1, 5, none⟩ v) x fs') := fun v => hB2.kept (S := [w.heap.size, w.heap.size + 1]) ((Kept.refl _ _).setCell (Or.inl (by simp)) _) hxx
  go_wp2_with (go_at_call 30; refine (vrows_bare x fs' _ (by exact B2'.out _)).mono ?_; rintro e w9 ⟨rfl, rfl⟩)
  refine Calls.mono (HVF.out _ (by exact (B2'.out _).anyR)) ?_
  rintro e w3 ⟨hcase, hk3⟩
  have s03 := hk3.get ((Below.heap_setCell w2 ⟨w.heap.size + 1, 5, none⟩ (.int .i64 0) w.heap.size (by simp)).trans s02) (by simp; omega)
  have s13 : w3.heap[w.heap.size + 1]? = some (.cells #[.slice none 0 0, .int .i64 0, .string ⟨#[]⟩, .int .i64 0, .int .i64 0, .int .i64 0] 52 (0, 0)) := hk3.get ((block_setCell s12 5 (.int .i64 0)).trans (by simp)) (by simp; omega)
  have HW3 : Hid (WorldAt w3 b x T o) := (HW2.out.kept (S := [w.heap.size, w.heap.size + 1]) ((Kept.refl _ _).setCell (Or.inl (by simp)) _) hbb HGG.out).keptX hk3 hx
  have hkx : Kept [x] w w3 := (hkx2.setCell (Or.inr (by simp)) _).trans hk3
  have hz3 := lt_of_get s13
  have hz3' := lt_of_get s03
  have hb3 := HW3.out.lt
  clear y0 y1 y2 y3 y4 y5 z0 z1 z2 z3 z4 z5 f0 f1 c0 c1 s02 s12 s0 s1 hkx2 hk2 hk3 B2' hB2
  obtain ⟨y0, y1, y2, y3, y4, y5⟩ := seen_cells s03
  obtain ⟨z0, z1, z2, z3, z4, z5⟩ := seen_cells s13
  have f0 := free_of s03
  have f1 := free_of s13
  obtain ⟨c0, c1, -⟩ := HW3.out.cells
  cases hr : (r == 0)
  · simp only [hr, Bool.false_eq_true, if_false] at hcase
    obtain ⟨rfl, hB3⟩ := hcase
    have hr' : (r != 0) = true := by simp [bne, hr]
    have HB : Hid (∀ a0 a1 a2 a3 a4 ob, BareAt ((((((w3.setCell ⟨w.heap.size + 1, 1, none⟩ a0).setCell ⟨w.heap.size + 1, 2, none⟩ a1).setCell ⟨w.heap.size + 1, 3, none⟩ a2).setCell ⟨w.heap.size + 1, 4, none⟩ a3).setCell ⟨w.heap.size + 1, 5, none⟩ a4).alloc ob) x fs') := fun a0 a1 a2 a3 a4 ob => hB3.kept (five_kept (Kept.refl [w.heap.size, w.heap.size + 1] w3) (Or.inl (by simp)) _ _ _ _ _ _) hxx
    go_wp2_with (go_at_call 30; refine (vrows_bare x fs' _ (by exact HB.out _ _ _ _ _ _)).mono ?_; rintro e w9 ⟨rfl, rfl⟩)
    go_region
    all_goals go_wp2
    all_goals
      refine bodyPost_ret (v := seenV (.slice none 0 0) r ⟨#[109]⟩ ln cl 6) (by simp [results, Tryz.results18, go_sem, seenV, hz3', y0, y1, y2, y3, y4, y5]) rfl ?_
      refine core_bad hr ?_ ?_ ?_
      · exact HW3.out.kept (S := [w.heap.size, w.heap.size + 1]) (twelve_kept (p := w.heap.size) (q := w.heap.size + 1) (Kept.refl _ _) (Or.inl (by simp)) (Or.inl (by simp)) _ _ _ _ _ _ _ _ _ _ _ _ _) hbb HGG.out
      · exact hB3.anyR.kept (S := [w.heap.size, w.heap.size + 1]) (twelve_kept (p := w.heap.size) (q := w.heap.size + 1) (Kept.refl _ _) (Or.inl (by simp)) (Or.inl (by simp)) _ _ _ _ _ _ _ _ _ _ _ _ _) hxx
      · exact twelve_kept (p := w.heap.size) (q := w.heap.size + 1) hkx (Or.inr (Nat.le_refl _)) (Or.inr (by omega)) _ _ _ _ _ _ _ _ _ _ _ _ _
  · simp only [hr, if_true] at hcase
    obtain ⟨rfl, H, g, hR3, hg3, hH3⟩ := hcase
    simp only [World.size_setCell] at hg3 hH3
    have hgn : g ∉ [w.heap.size, w.heap.size + 1] := by simp; omega
    have HHn : Hid (∀ k, InH H k → k ∉ [w.heap.size, w.heap.size + 1]) := fun k hk => by have := hH3 k hk; simp; omega
    have heq := fun (wx : World) => eqFault wx
    go_wp2_with fail
    refine (vrows_any x fs' l H g _ (by exact hR3.kept (five_kept (Kept.refl [w.heap.size, w.heap.size + 1] w3) (Or.inl (by simp)) _ _ _ _ _ _) hxx hgn HHn.out) hlen).mono ?_
    rintro e w9 ⟨ob, rfl, hO9, hf9, hk9⟩
    obtain ⟨ao, n9, cp9, hrs⟩ := rowsSl_is ob (rowsF l).length
    rw [hrs]
    have s19 := hk9.get (five_block s13 _ _ _ _ _ _) (by simp)
    have s09 := hk9.get ((five_kept (Kept.refl [w.heap.size + 1] w3) (Or.inl (by simp)) _ _ _ _ _ _).get s03 (by simp)) (by simp)
    have K9 : Kept [x] w w9 := (five_kept hkx (Or.inr (by omega)) _ _ _ _ _ _).trans (hk9.mono (by simp))
    have HW9 : Hid (WorldAt w9 b x T o) := (HW3.out.kept (five_kept (Kept.refl [w.heap.size, w.heap.size + 1] w3) (Or.inl (by simp)) _ _ _ _ _ _) hbb HGG.out).still hk9
    have HV9 : Hid (SomeAt w9 x fs') := (hR3.anyR.kept (five_kept (Kept.refl [w.heap.size, w.heap.size + 1] w3) (Or.inl (by simp)) _ _ _ _ _ _) hxx).kept hk9 (by simp)
    have HO9 : Hid (RowsAt w9 ob (rowsF l)) := hO9
    have HF9 : Hid (∀ g, ob = some g → w.heap.size + 2 ≤ g) := fun g hg => by have := hf9 g hg; simp at this; omega
    have HRS := (show Hid _ from hrs)
    clear y0 y1 y2 y3 y4 y5 z0 z1 z2 z3 z4 z5 f0 f1 c0 c1 s03 s13 hkx hk9 hO9 hf9 hrs hR3
    obtain ⟨y0, y1, y2, y3, y4, y5⟩ := seen_cells s09
    obtain ⟨z0, z1, z2, z3, z4, z5⟩ := seen_cells s19
    have f0 := free_of s09
    have f1 := free_of s19
    have hz9 := lt_of_get s19
    have hz9' := lt_of_get s09
    go_wp2_with fail
    go_region
    all_goals go_wp2
    all_goals
      refine bodyPost_ret (v := seenV (.slice ao n9 cp9) 0 ⟨#[]⟩ 0 0 0) (by simp [results, Tryz.results18, go_sem, seenV, y0, y1, y2, y3, y4, y5]) rfl ?_
      refine core_good hr (ob := ob) HRS.out ?_ (fun g hg => by have := HF9.out g hg; omega) ?_ ?_ ?_
      · exact RowsAt.kept HO9.out (S := [w.heap.size, w.heap.size + 1]) (seven_kept (p := w.heap.size) (q := w.heap.size + 1) (Kept.refl _ _) (Or.inl (by simp)) (Or.inl (by simp)) _ _ _ _ _ _ _) (fun g hg => by have := HF9.out g hg; simp; omega)
      · exact HW9.out.kept (S := [w.heap.size, w.heap.size + 1]) (seven_kept (p := w.heap.size) (q := w.heap.size + 1) (Kept.refl _ _) (Or.inl (by simp)) (Or.inl (by simp)) _ _ _ _ _ _ _) hbb HGG.out
      · exact HV9.out.kept (S := [w.heap.size, w.heap.size + 1]) (seven_kept (p := w.heap.size) (q := w.heap.size + 1) (Kept.refl _ _) (Or.inl (by simp)) (Or.inl (by simp)) _ _ _ _ _ _ _) hxx
      · exact seven_kept (p := w.heap.size) (q := w.heap.size + 1) K9 (Or.inr (Nat.le_refl _)) (Or.inr (by omega)) _ _ _ _ _ _ _

end Go.Proofs.YtcipkfhpcbddiaaGreat

/- Package metaproofkeep: see, and the report that it leaves. -/
namespace Go.Proofs.YtcipkfhpcbddiaaGreat
open Go.RowKit
attribute [local go_sem] build_nofault

/-- And the report. -/
def RptFresh (w w' : World) (x : Nat) (fs' : List (ByteArray × ByteArray)) (l : List St) : Prop := ∃ H g, RptAt w' x fs' l H g ∧ w.heap.size ≤ g ∧ ∀ k, InH H k → w.heap.size ≤ k
def CoreSaysR (b x : Nat) (T : ByteArray) (o : Option Nat) (fs' : List (ByteArray × ByteArray)) (r ln cl : Int) (l : List St) (w : World) (e : Ending) (w' : World) : Prop :=
  CoreSays b x T o fs' r ln cl l w e w' ∧ ((r == 0) = true → RptFresh w w' x fs' l)

set_option maxHeartbeats 3000000 in
set_option maxRecDepth 100000 in
theorem see_coreR (b x : Nat) (T t : ByteArray) (o : Option Nat) (fs fs' : List (ByteArray × ByteArray)) (r ln cl : Int) (l : List St) (w : World) (hW : WorldAt w b x T o) (hV : SomeAt w x fs) (hx : x ≠ b) (ht : ¬ 1024 < t.size) (hp : putF fs ⟨#[109]⟩ t = (0, fs')) (hlen : l.length ≤ 10000)
    (VF : ∀ w', SomeAt w' x fs' → Calls Tryz.prog 15 #[.pointer (some ⟨x, 0, none⟩), .string ⟨#[109]⟩] w' fun e w'' =>
      (if (r == 0) = true then e = .returned (.tuple #[.agg #[.int .i64 0, .string ⟨#[]⟩, .int .i64 0, .int .i64 0], .int .i64 0]) ∧ ∃ H g, RptAt w'' x fs' l H g ∧ w'.heap.size ≤ g ∧ ∀ k, InH H k → w'.heap.size ≤ k
       else e = .returned (.tuple #[.agg #[.int .i64 r, .string ⟨#[109]⟩, .int .i64 ln, .int .i64 cl], .int .i64 6]) ∧ BareAt w'' x fs') ∧ Kept [x] w' w'') :
    Calls Tryz.prog 18 #[.pointer (some ⟨b, 0, none⟩), .string t] w fun e w' => CoreSaysR b x T o fs' r ln cl l w e w' := by
  have hbw := hW.lt
  have hxw := hV.lt
  obtain ⟨c0, c1, -⟩ := hW.cells
  obtain ⟨W, hWW⟩ : ∃ W, W = (w.alloc (.cells #[.slice none 0 0, .int .i64 0, .string ⟨#[]⟩, .int .i64 0, .int .i64 0, .int .i64 0] 52)).alloc (.cells #[.slice none 0 0, .int .i64 0, .string ⟨#[]⟩, .int .i64 0, .int .i64 0, .int .i64 0] 52) := ⟨_, rfl⟩
  have hKW0 : Kept [] w W := by rw [hWW]; exact ((Kept.refl _ _).alloc _).alloc _
  have s0 : W.heap[w.heap.size]? = some (.cells #[.slice none 0 0, .int .i64 0, .string ⟨#[]⟩, .int .i64 0, .int .i64 0, .int .i64 0] 52 (0, 0)) := by
    rw [hWW]; exact ((Kept.refl [] _).alloc _).get (heap_alloc_new _ _) (by simp)
  have s1 : W.heap[w.heap.size + 1]? = some (.cells #[.slice none 0 0, .int .i64 0, .string ⟨#[]⟩, .int .i64 0, .int .i64 0, .int .i64 0] 52 (0, 0)) := by
    rw [hWW]
    have e : (w.alloc (.cells #[.slice none 0 0, .int .i64 0, .string ⟨#[]⟩, .int .i64 0, .int .i64 0, .int .i64 0] 52)).heap.size = w.heap.size + 1 := by simp
    rw [← e]; exact heap_alloc_new _ _
  have HW := (show Hid _ from hWW.symm)
  have PF := vput_any x ⟨#[109]⟩ t fs W (hV.kept hKW0 (by simp)) (by simp [ByteArray.size]) (by omega)
  rw [hp] at PF
  have HPF := (show Hid _ from PF)
  have HVF := (show Hid _ from VF)
  clear PF hWW hp VF
  have hne1 : w.heap.size ≠ x := by omega
  have hne2 : w.heap.size + 1 ≠ x := by omega
  have hxx : x ∉ [w.heap.size, w.heap.size + 1] := by simp; omega
  have hbb : b ∉ [w.heap.size, w.heap.size + 1] := by simp; omega
  have hzz := hW.rows.lt
  have HGG : Hid (∀ g, o = some g → g ∉ [w.heap.size, w.heap.size + 1]) := fun g hg => by have := hzz g hg; simp; omega
  clear hzz
  have hsn := fun (wx : World) => Lib.run_eql_slice_nil (P := Tryz.prog) wx 44 59 none 0 0 0 0 Tryz.underlying44
  have HWk : Hid (WorldAt W b x T o) := hW.still hKW0
  clear hW
  go_enter Tryz.func18, Tryz.ntmps18
  go_wp2_with fail
  rw [HW.out]
  refine Calls.mono HPF.out ?_
  rintro e w2 ⟨rfl, -, hB2, hk2⟩
  have hB2 := hB2 trivial
  have s02 := hk2.get s0 (by simp; omega)
  have s12 := hk2.get s1 (by simp; omega)
  have HW2 : Hid (WorldAt w2 b x T o) := HWk.out.keptX hk2 hx
  have hkx2 : Kept [x] w w2 := (hKW0.mono (by simp)).trans hk2
  obtain ⟨y0, y1, y2, y3, y4, y5⟩ := seen_cells s02
  obtain ⟨z0, z1, z2, z3, z4, z5⟩ := seen_cells s12
  have f0 := free_of s02
  have f1 := free_of s12
  clear c0 c1
  obtain ⟨c0, c1, -⟩ := HW2.out.cells
  have hbw2 := HW2.out.lt
  have hs2 := hk2.size
  have hWs := lt_of_get s1
  have B2' : Hid (∀ v, BareAt (w2.setCell ⟨w.heap.size + 1, 5, none⟩ v) x fs') := fun v => hB2.kept (S := [w.heap.size, w.heap.size + 1]) ((Kept.refl _ _).setCell (Or.inl (by simp)) _) hxx
  go_wp2_with (go_at_call 30; refine (vrows_bare x fs' _ (by exact B2'.out _)).mono ?_; rintro e w9 ⟨rfl, rfl⟩)
  refine Calls.mono (HVF.out _ (by exact (B2'.out _).anyR)) ?_
  rintro e w3 ⟨hcase, hk3⟩
  have s03 := hk3.get ((Below.heap_setCell w2 ⟨w.heap.size + 1, 5, none⟩ (.int .i64 0) w.heap.size (by simp)).trans s02) (by simp; omega)
  have s13 : w3.heap[w.heap.size + 1]? = some (.cells #[.slice none 0 0, .int .i64 0, .string ⟨#[]⟩, .int .i64 0, .int .i64 0, .int .i64 0] 52 (0, 0)) := hk3.get ((block_setCell s12 5 (.int .i64 0)).trans (by simp)) (by simp; omega)
  have HW3 : Hid (WorldAt w3 b x T o) := (HW2.out.kept (S := [w.heap.size, w.heap.size + 1]) ((Kept.refl _ _).setCell (Or.inl (by simp)) _) hbb HGG.out).keptX hk3 hx
  have hkx : Kept [x] w w3 := (hkx2.setCell (Or.inr (by simp)) _).trans hk3
  have hz3 := lt_of_get s13
  have hz3' := lt_of_get s03
  have hb3 := HW3.out.lt
  clear y0 y1 y2 y3 y4 y5 z0 z1 z2 z3 z4 z5 f0 f1 c0 c1 s02 s12 s0 s1 hkx2 hk2 hk3 B2' hB2
  obtain ⟨y0, y1, y2, y3, y4, y5⟩ := seen_cells s03
  obtain ⟨z0, z1, z2, z3, z4, z5⟩ := seen_cells s13
  have f0 := free_of s03
  have f1 := free_of s13
  obtain ⟨c0, c1, -⟩ := HW3.out.cells
  cases hr : (r == 0)
  · simp only [hr, Bool.false_eq_true, if_false] at hcase
    obtain ⟨rfl, hB3⟩ := hcase
    have hr' : (r != 0) = true := by simp [bne, hr]
    have HB : Hid (∀ a0 a1 a2 a3 a4 ob, BareAt ((((((w3.setCell ⟨w.heap.size + 1, 1, none⟩ a0).setCell ⟨w.heap.size + 1, 2, none⟩ a1).setCell ⟨w.heap.size + 1, 3, none⟩ a2).setCell ⟨w.heap.size + 1, 4, none⟩ a3).setCell ⟨w.heap.size + 1, 5, none⟩ a4).alloc ob) x fs') := fun a0 a1 a2 a3 a4 ob => hB3.kept (five_kept (Kept.refl [w.heap.size, w.heap.size + 1] w3) (Or.inl (by simp)) _ _ _ _ _ _) hxx
    go_wp2_with (go_at_call 30; refine (vrows_bare x fs' _ (by exact HB.out _ _ _ _ _ _)).mono ?_; rintro e w9 ⟨rfl, rfl⟩)
    go_region
    all_goals go_wp2
    all_goals
      refine bodyPost_ret (v := seenV (.slice none 0 0) r ⟨#[109]⟩ ln cl 6) (by simp [results, Tryz.results18, go_sem, seenV, hz3', y0, y1, y2, y3, y4, y5]) rfl ?_
      refine ⟨core_bad hr ?_ ?_ ?_, fun h => by rw [hr] at h; cases h⟩
      · exact HW3.out.kept (S := [w.heap.size, w.heap.size + 1]) (twelve_kept (p := w.heap.size) (q := w.heap.size + 1) (Kept.refl _ _) (Or.inl (by simp)) (Or.inl (by simp)) _ _ _ _ _ _ _ _ _ _ _ _ _) hbb HGG.out
      · exact hB3.anyR.kept (S := [w.heap.size, w.heap.size + 1]) (twelve_kept (p := w.heap.size) (q := w.heap.size + 1) (Kept.refl _ _) (Or.inl (by simp)) (Or.inl (by simp)) _ _ _ _ _ _ _ _ _ _ _ _ _) hxx
      · exact twelve_kept (p := w.heap.size) (q := w.heap.size + 1) hkx (Or.inr (Nat.le_refl _)) (Or.inr (by omega)) _ _ _ _ _ _ _ _ _ _ _ _ _
  · simp only [hr, if_true] at hcase
    obtain ⟨rfl, H, g, hR3, hg3, hH3⟩ := hcase
    simp only [World.size_setCell] at hg3 hH3
    have hgn : g ∉ [w.heap.size, w.heap.size + 1] := by simp; omega
    have HHn : Hid (∀ k, InH H k → k ∉ [w.heap.size, w.heap.size + 1]) := fun k hk => by have := hH3 k hk; simp; omega
    have heq := fun (wx : World) => eqFault wx
    go_wp2_with fail
    refine (vrows_any x fs' l H g _ (by exact hR3.kept (five_kept (Kept.refl [w.heap.size, w.heap.size + 1] w3) (Or.inl (by simp)) _ _ _ _ _ _) hxx hgn HHn.out) hlen).mono ?_
    rintro e w9 ⟨ob, rfl, hO9, hf9, hk9⟩
    obtain ⟨ao, n9, cp9, hrs⟩ := rowsSl_is ob (rowsF l).length
    rw [hrs]
    have s19 := hk9.get (five_block s13 _ _ _ _ _ _) (by simp)
    have s09 := hk9.get ((five_kept (Kept.refl [w.heap.size + 1] w3) (Or.inl (by simp)) _ _ _ _ _ _).get s03 (by simp)) (by simp)
    have K9 : Kept [x] w w9 := (five_kept hkx (Or.inr (by omega)) _ _ _ _ _ _).trans (hk9.mono (by simp))
    have HW9 : Hid (WorldAt w9 b x T o) := (HW3.out.kept (five_kept (Kept.refl [w.heap.size, w.heap.size + 1] w3) (Or.inl (by simp)) _ _ _ _ _ _) hbb HGG.out).still hk9
    have HV9 : Hid (SomeAt w9 x fs') := (hR3.anyR.kept (five_kept (Kept.refl [w.heap.size, w.heap.size + 1] w3) (Or.inl (by simp)) _ _ _ _ _ _) hxx).kept hk9 (by simp)
    have HO9 : Hid (RowsAt w9 ob (rowsF l)) := hO9
    have HR9 : Hid (RptAt w9 x fs' l H g) := (hR3.kept (five_kept (Kept.refl [w.heap.size, w.heap.size + 1] w3) (Or.inl (by simp)) _ _ _ _ _ _) hxx hgn HHn.out).still hk9
    have HFR : Hid (w.heap.size ≤ g ∧ ∀ k, InH H k → w.heap.size ≤ k) := ⟨by omega, fun k hk => by have := hH3 k hk; omega⟩
    have HF9 : Hid (∀ g, ob = some g → w.heap.size + 2 ≤ g) := fun g hg => by have := hf9 g hg; simp at this; omega
    have HRS := (show Hid _ from hrs)
    clear y0 y1 y2 y3 y4 y5 z0 z1 z2 z3 z4 z5 f0 f1 c0 c1 s03 s13 hkx hk9 hO9 hf9 hrs hR3
    obtain ⟨y0, y1, y2, y3, y4, y5⟩ := seen_cells s09
    obtain ⟨z0, z1, z2, z3, z4, z5⟩ := seen_cells s19
    have f0 := free_of s09
    have f1 := free_of s19
    have hz9 := lt_of_get s19
    have hz9' := lt_of_get s09
    go_wp2_with fail
    go_region
    all_goals go_wp2
    all_goals
      refine bodyPost_ret (v := seenV (.slice ao n9 cp9) 0 ⟨#[]⟩ 0 0 0) (by simp [results, Tryz.results18, go_sem, seenV, y0, y1, y2, y3, y4, y5]) rfl ?_
      refine ⟨core_good hr (ob := ob) HRS.out ?_ (fun g hg => by have := HF9.out g hg; omega) ?_ ?_ ?_, fun _ => ⟨H, g, HR9.out.kept (S := [w.heap.size, w.heap.size + 1]) (seven_kept (p := w.heap.size) (q := w.heap.size + 1) (Kept.refl _ _) (Or.inl (by simp)) (Or.inl (by simp)) _ _ _ _ _ _ _) hxx hgn HHn.out, HFR.out⟩⟩
      · exact RowsAt.kept HO9.out (S := [w.heap.size, w.heap.size + 1]) (seven_kept (p := w.heap.size) (q := w.heap.size + 1) (Kept.refl _ _) (Or.inl (by simp)) (Or.inl (by simp)) _ _ _ _ _ _ _) (fun g hg => by have := HF9.out g hg; simp; omega)
      · exact HW9.out.kept (S := [w.heap.size, w.heap.size + 1]) (seven_kept (p := w.heap.size) (q := w.heap.size + 1) (Kept.refl _ _) (Or.inl (by simp)) (Or.inl (by simp)) _ _ _ _ _ _ _) hbb HGG.out
      · exact HV9.out.kept (S := [w.heap.size, w.heap.size + 1]) (seven_kept (p := w.heap.size) (q := w.heap.size + 1) (Kept.refl _ _) (Or.inl (by simp)) (Or.inl (by simp)) _ _ _ _ _ _ _) hxx
      · exact seven_kept (p := w.heap.size) (q := w.heap.size + 1) K9 (Or.inr (Nat.le_refl _)) (Or.inr (by omega)) _ _ _ _ _ _ _


end Go.Proofs.YtcipkfhpcbddiaaGreat

/- Package metaproofkeep: back, chunk, grown: with the report that they leave. -/
namespace Go.Proofs.YtcipkfhpcbddiaaGreat
open Go.RowKit
attribute [local go_sem] build_world

/-- The verifier has the report on this text; all of it lies from block n on. -/
def RepFor (w : World) (x n N : Nat) (t : ByteArray) : Prop := ∃ fs H g, RptAt w x fs (rdM t).2.sts H g ∧ n ≤ g ∧ (∀ k, InH H k → n ≤ k) ∧ MOk N fs
theorem RepFor.still {w w' : World} {x n N : Nat} {t : ByteArray} (h : RepFor w x n N t) (k : Kept [] w w') : RepFor w' x n N t := by
  obtain ⟨fs, H, g, h1, h2, h3, h4⟩ := h
  exact ⟨fs, H, g, h1.still k, h2, h3, h4⟩
theorem RepFor.keptB {w w' : World} {x n N b : Nat} {t : ByteArray} (h : RepFor w x n N t) (k : Kept [b] w w') (hx : x ≠ b) (hb : b < n) : RepFor w' x n N t := by
  obtain ⟨fs, H, g, h1, h2, h3, h4⟩ := h
  exact ⟨fs, H, g, h1.kept k (by simpa using hx) (by simp; omega) (fun k hk => by have := h3 k hk; simp; omega), h2, h3, h4⟩
theorem RepFor.down {w : World} {x n m N : Nat} {t : ByteArray} (h : RepFor w x n N t) (hm : m ≤ n) : RepFor w x m N t := by
  obtain ⟨fs, H, g, h1, h2, h3, h4⟩ := h
  exact ⟨fs, H, g, h1, by omega, fun k hk => by have := h3 k hk; omega, h4⟩

theorem see_shortR {N : Nat} (hN : N ≤ 3) (b x : Nat) (T t : ByteArray) (o : Option Nat) (fs : List (ByteArray × ByteArray)) (w : World) (hW : WorldAt w b x T o) (hV : SomeAt w x fs) (hx : x ≠ b) (ht : ¬ 1024 < t.size) (hM : MOk N fs) (hni : holdsF t = false) :
    Calls Tryz.prog 18 #[.pointer (some ⟨b, 0, none⟩), .string t] w fun e w' => SeeSays N b x T t o w e w' ∧ (((rdM t).1.1 == 0) = true → RepFor w' x w.heap.size N t) := by
  obtain ⟨k, fs', hp, hk, hk4, hf, hnm, hdt, hM'⟩ := put_m hN fs t hM ht
  have HG := rdM_rec t (by omega) hni
  refine (see_coreR b x T t o fs fs' (rdM t).1.1 (lineAt t (rdM t).1.2) (colAt t (rdM t).1.2) (rdM t).2.sts w hW hV hx ht hp HG.ok.len (fun w' h' => verify_m x k fs' t w' h' hf hk hk4 hnm hdt hM'.2 hni)).mono ?_
  rintro e w' ⟨⟨o', he, hR, hg, hW', hV', hk'⟩, hrep⟩
  refine ⟨⟨o', ?_, hR, hg, hW', ⟨fs', hV', hM'⟩, hk'⟩, fun h => ?_⟩
  · rw [he]; rfl
  · obtain ⟨H, g, h1, h2, h3⟩ := hrep h
    exact ⟨fs', H, g, h1, h2, h3, hM'⟩

set_option maxHeartbeats 1000000 in
set_option maxRecDepth 100000 in
theorem back_anyR {N : Nat} (hN : N ≤ 3) (b x : Nat) (T : ByteArray) (o : Option Nat) (fs : List (ByteArray × ByteArray)) (w : World) (hW : WorldAt w b x T o) (hV : SomeAt w x fs) (hx : x ≠ b) (hM : MOk N fs) (hT : Fine T) :
    Calls Tryz.prog 21 #[.pointer (some ⟨b, 0, none⟩)] w fun e w' => BackSays N b x T o w e w' ∧ RepFor w' x w.heap.size N T := by
  obtain ⟨c0, c1, -⟩ := hW.cells
  have hbw := hW.lt
  have SF := see_shortR hN b x T T o fs w hW hV hx (by have := hT.size; omega) hM hT.inc
  unfold SeeSays at SF
  have HSF := (show Hid _ from SF)
  have hrr := hT.zero
  have hok := hT.rws
  clear SF
  go_enter Tryz.func21, Tryz.ntmps21
  go_wp2_with fail
  refine Calls.mono HSF.out ?_
  rintro e w2 ⟨⟨o', rfl, hR2, hg2, hW2, ⟨fs', hV2, hM2⟩, hk2⟩, hRep⟩
  have HRep : Hid (RepFor w2 x w.heap.size N T) := hRep hrr
  clear hRep
  have hR2 := hR2 hrr
  unfold seeV
  rw [if_pos hrr]
  have SR := fun (w' : World) (k : Kept [] w2 w') => sameRows_any o' o (rowsM T) w' (hR2.still k) (hW2.rows.still k) hok
  have hb2 := hW2.lt
  obtain ⟨d0, d1, d2⟩ := hW2.cells
  obtain ⟨ao1, n1, c1', hrs1⟩ := rowsSl_is o' (rowsM T).length
  obtain ⟨ao2, n2, c2', hrs2⟩ := rowsSl_is o (rowsM T).length
  rw [hrs1, hrs2] at SR
  rw [hrs2] at d2
  rw [hrs1]
  have HSR := (show Hid _ from SR)
  clear SR hrs1 hrs2 hok hR2 c0 c1
  simp only [seenV]
  go_upto_region 2 with fail
  obtain ⟨W3, hW3⟩ : ∃ W3, W3 = w2.alloc (.cells #[.slice ao1 n1 c1', .int .i64 0, .string ⟨#[]⟩, .int .i64 0, .int .i64 0, .int .i64 0] 52) := ⟨_, rfl⟩
  have k3 : Kept [] w2 W3 := by rw [hW3]; exact (Kept.refl [] _).alloc _
  have B3 : W3.heap[w2.heap.size]? = some (.cells #[.slice ao1 n1 c1', .int .i64 0, .string ⟨#[]⟩, .int .i64 0, .int .i64 0, .int .i64 0] 52 (0, 0)) := by rw [hW3]; exact heap_alloc_new _ _
  rw [← hW3]
  have s0 := (seen_cells B3).1
  have e2 : W3.cell? ⟨b, 2, none⟩ = some (.slice ao2 n2 c2') := by
    have := (hW2.still k3).cells.2.2
    rw [World.cell?_of_block (k3.block b hb2 (by simp))]; exact d2
  have hb3 : b < W3.heap.size := Nat.lt_of_lt_of_le hb2 k3.size
  clear hW3 d0 d1 d2
  go_region_with (go_at_call 20; refine (HSR.out _ (by exact k3.trans (Kept.refl [] W3).drew)).mono ?_; rintro e w4 ⟨rfl, k4⟩)
  all_goals
    have K4 : Kept [] w2 w4 := (k3.trans (Kept.refl [] W3).drew).trans k4
    have B4 := k4.get ((Kept.refl [] W3).drew.get B3 (by simp)) (by simp)
    obtain ⟨-, -, -, -, -, s5⟩ := seen_cells B4
    have HW4 := (show Hid _ from hW2.still K4)
    have hz4 := lt_of_get B4
    clear s0 e2 B3
    go_wp2
    go_ret
    exact ⟨⟨rfl, HW4.out, ⟨fs', hV2.kept K4 (by simp), hM2⟩, hk2.trans (K4.mono (by simp))⟩, RepFor.still HRep.out K4⟩

/-- What chunk leaves, with the report. -/
def ChunkSaysR (N b x : Nat) (w : World) (e : Ending) (w' : World) : Prop :=
  e = .returned (.bool true) ∧ (∃ T' o', WorldAt w' b x T' o' ∧ Fine T' ∧ (rowsM T' = [] ∨ RepFor w' x (b + 1) N T')) ∧ (∃ fs', SomeAt w' x fs' ∧ MOk N fs') ∧ Kept [b, x] w w'

set_option maxHeartbeats 3000000 in
set_option maxRecDepth 100000 in
theorem chunk_anyR {N : Nat} (hN : N ≤ 3) (b x : Nat) (T c : ByteArray) (o : Option Nat) (fs : List (ByteArray × ByteArray)) (w : World) (hW : WorldAt w b x T o) (hV : SomeAt w x fs) (hx : x ≠ b) (hM : MOk N fs) (hT : Fine T) (hc : c.size ≤ 1073741824) (hRp : Hid (rowsM T = [] ∨ RepFor w x (b + 1) N T)) :
    Calls Tryz.prog 16 #[.pointer (some ⟨b, 0, none⟩), .string c] w fun e w' => ChunkSaysR N b x w e w' := by
  have hTs := hT.size
  have hbw := hW.lt
  have hxw := hV.lt
  obtain ⟨c0, c1, -⟩ := hW.cells
  cases hh : holdsF c
  · have hsz : (T ++ ⟨#[10]⟩ ++ c).size = T.size + 1 + c.size := by simp only [ByteArray.size_append]; rfl
    have HU : Hid (∀ U, U = T ++ ⟨#[10]⟩ ++ c → U.size = T.size + 1 + c.size ∧ holdsF U = false ∧ ((rdM U).1.1 ≠ 0 → lineAt T T.size + 1 ≤ lineAt U (rdM U).1.2) ∧ ∃ m, rowsM U = rowsM T ++ m) := by
      intro U hUU; subst hUU; exact ⟨hsz, holds_more T c hT.inc hh, more_line T c hT, rows_more T c hT⟩
    clear hsz
    go_enter Tryz.func16, Tryz.ntmps16
    go_wp2_with (go_at_call 17; refine (kholds_any _ _ (by omega)).mono ?_; rintro e w9 ⟨rfl, hw9⟩; rw [hw9])
    obtain ⟨U, hUU⟩ : ∃ U, U = T ++ ⟨#[10]⟩ ++ c := ⟨_, rfl⟩
    rw [← hUU]
    obtain ⟨u1, u3, u4, m, u5⟩ := HU.out U hUU
    clear hUU HU
    by_cases hl : 1024 < U.size
    · refine (see_long b x T U o fs _ hW hV hx hl (by omega)).mono ?_
      rintro e w2 ⟨rfl, hW2, hV2, hk2⟩
      simp only [seenV]
      have hb2 := hW2.lt
      go_wp2_with fail
      refine (back_anyR hN b x T o fs _ (hW2.still ((Kept.refl [] _).alloc _)) (hV2.kept ((Kept.refl [] _).alloc _) (by simp)) hx hM hT).mono ?_
      rintro e w3 ⟨⟨rfl, hW3, ⟨fs3, hV3, hM3⟩, hk3⟩, hRep3⟩
      go_wp2
      go_ret
      exact ⟨rfl, ⟨T, o, hW3, hT, Or.inr (hRep3.down (by simp; omega))⟩, ⟨fs3, hV3, hM3⟩, ((hk2.mono (by simp)).alloc _).trans (hk3.mono (by simp))⟩
    · refine (see_shortR hN b x T U o fs _ hW hV hx hl hM u3).mono ?_
      rintro e w2 ⟨⟨o', rfl, hR2, hg2, hW2, ⟨fs2, hV2, hM2⟩, hk2⟩, hRep⟩
      have HRep := (show Hid _ from hRep)
      clear hRep
      unfold seeV
      have hb2 := hW2.lt
      have FU : Hid (((rdM U).1.1 == 0) = true → Fine U) := fun h => ⟨by omega, by simpa using h, u3⟩
      obtain ⟨r, HR⟩ : ∃ r, Hid ((rdM U).1.1 = r) := ⟨_, rfl⟩
      obtain ⟨p, HP⟩ : ∃ p, Hid ((rdM U).1.2 = p) := ⟨_, rfl⟩
      rw [HR.out] at hR2 u4 FU HRep ⊢
      rw [HP.out] at u4 ⊢
      cases hr : (r == 0)
      · simp only [Bool.false_eq_true, if_false, seenV]
        have hl1 := line_le T T.size
        have hl2 := u4 (by simpa using hr)
        have hl3 := line_le U p
        clear u4 hR2 FU c0 c1
        obtain ⟨c0, c1, -⟩ := hW2.cells
        go_wp2_with (go_at_call 22; refine (lines_any _ _ (by omega)).mono ?_; rintro e w9 ⟨rfl, hw9⟩; subst hw9)
        refine (back_anyR hN b x T o fs2 _ (hW2.still ((Kept.refl [] _).alloc _)) (hV2.kept ((Kept.refl [] _).alloc _) (by simp)) hx hM2 hT).mono ?_
        rintro e w3 ⟨⟨rfl, hW3, ⟨fs3, hV3, hM3⟩, hk3⟩, hRep3⟩
        go_wp2
        go_ret
        exact ⟨rfl, ⟨T, o, hW3, hT, Or.inr (hRep3.down (by simp; omega))⟩, ⟨fs3, hV3, hM3⟩, ((hk2.mono (by simp)).alloc _).trans (hk3.mono (by simp))⟩
      · simp only [if_true]
        have hR2 := hR2 hr
        have HF2 := (show Hid _ from FU.out hr)
        have BG := fun (w' : World) (k : Kept [] w2 w') => begins_any o o' (rowsM T) m w' (hW2.rows.still k) (by rw [← u5]; exact hR2.still k) (by rw [← u5]; exact HF2.out.rws)
        rw [← u5] at BG
        obtain ⟨d0, d1, d2⟩ := hW2.cells
        obtain ⟨ao1, n1, c1', hrs1⟩ := rowsSl_is o' (rowsM U).length
        obtain ⟨ao2, n2, c2', hrs2⟩ := rowsSl_is o (rowsM T).length
        rw [hrs1, hrs2] at BG
        rw [hrs2] at d2
        rw [hrs1]
        have HBG := (show Hid _ from BG)
        have HRS1 := (show Hid _ from hrs1)
        have HR2 : Hid (RowsAt w2 o' (rowsM U)) := hR2
        clear BG hrs1 hrs2 u5 hR2 u4 FU c0 c1 u3 hl
        simp only [seenV]
        go_upto_region 9 with fail
        obtain ⟨W3, hW3⟩ : ∃ W3, W3 = w2.alloc (.cells #[.slice ao1 n1 c1', .int .i64 0, .string ⟨#[]⟩, .int .i64 0, .int .i64 0, .int .i64 0] 52) := ⟨_, rfl⟩
        have k3 : Kept [] w2 W3 := by rw [hW3]; exact (Kept.refl [] _).alloc _
        have B3 : W3.heap[w2.heap.size]? = some (.cells #[.slice ao1 n1 c1', .int .i64 0, .string ⟨#[]⟩, .int .i64 0, .int .i64 0, .int .i64 0] 52 (0, 0)) := by rw [hW3]; exact heap_alloc_new _ _
        rw [← hW3]
        have s0 := (seen_cells B3).1
        have e2 : W3.cell? ⟨b, 2, none⟩ = some (.slice ao2 n2 c2') := by
          rw [World.cell?_of_block (k3.block b hb2 (by simp))]; exact d2
        have hb3 : b < W3.heap.size := Nat.lt_of_lt_of_le hb2 k3.size
        clear hW3 d0 d1 d2
        go_region_with (go_at_call 36; refine (HBG.out _ (by exact k3.trans (Kept.refl [] W3).drew)).mono ?_; rintro e w4 ⟨rfl, k4⟩)
        all_goals
          have K4 : Kept [] w2 w4 := (k3.trans (Kept.refl [] W3).drew).trans k4
          have B4 := k4.get ((Kept.refl [] W3).drew.get B3 (by simp)) (by simp)
          obtain ⟨t0, -, -, -, -, -⟩ := seen_cells B4
          have hW4 := hW2.still K4
          have hz4 := lt_of_get B4
          have hb4 := hW4.lt
          obtain ⟨f0, f1, f2⟩ := hW4.cells
          obtain ⟨ao3, n3, c3', hrs3⟩ := rowsSl_is o (rowsM T).length
          rw [hrs3] at f2
          have hfr := free_of hW4.blk
          have hne : b ≠ w2.heap.size := by omega
          have hne' : w2.heap.size ≠ b := by omega
          have HT4 := (show Hid _ from hW4.text U o' (HR2.out.still K4) (fun g hg => by have := hg2 g hg; omega))
          rw [HRS1.out] at HT4
          have HV4 : Hid (SomeAt w4 x fs2) := hV2.kept K4 (by simp)
          have HRp4 : Hid (RepFor w4 x (b + 1) N U) := ((HRep.out hr).still K4).down (by omega)
          have HKK : Hid (Kept [b, x] w w4) := (hk2.mono (by simp)).trans (K4.mono (by simp))
          clear s0 e2 B3 hW4 hrs3 B4 k4 K4
          go_wp2
          go_ret
          exact ⟨rfl, ⟨U, o', HT4.out, HF2.out, Or.inr (HRp4.out.keptB (two_keptW w4 b _ _) hx (by omega))⟩, ⟨fs2, HV4.out.kept (two_keptW w4 b _ _) (by simpa using hx), hM2⟩, (HKK.out.setCell (Or.inl (by simp)) _).setCell (Or.inl (by simp)) _⟩
  · go_enter Tryz.func16, Tryz.ntmps16
    go_wp2_with (go_at_call 17; refine (kholds_any _ _ (by omega)).mono ?_; rintro e w9 ⟨rfl, rfl⟩)
    go_ret
    exact ⟨rfl, ⟨T, o, hW, hT, hRp.out⟩, ⟨fs, hV, hM⟩, Kept.refl _ _⟩

/-- A world of the law's, and its verifier's report (where there are rows). -/
def LaidR (w0 w : World) (b x : Nat) : Prop := w0.heap.size ≤ b ∧ w0.heap.size ≤ x ∧ x ≠ b ∧ (∃ T o, WorldAt w b x T o ∧ Fine T ∧ (rowsM T = [] ∨ RepFor w x (b + 1) 0 T)) ∧ (∃ fs, SomeAt w x fs ∧ MOk 0 fs)

set_option maxHeartbeats 1000000 in
set_option maxRecDepth 100000 in
theorem grown_anyR (ao : Option Addr) (cap : Nat) (l : List ByteArray) (w : World) (hl : l.length ≤ 1073741824) (hls : ∀ i, i < l.length → (l.getD i ⟨#[]⟩).size ≤ 1073741824)
    (hc : l.length = 0 ∨ ∃ b off, ao = some ⟨b, off, none⟩ ∧ ChunksAt w b off l) :
    Calls Tryz.prog 8 #[.slice ao l.length cap] w fun e w' => ∃ b x, e = .returned (.tuple #[.pointer (some ⟨b, 0, none⟩), .bool true]) ∧ LaidR w w' b x ∧ Kept [] w w' := by
  go_enter Tryz.func8, Tryz.ntmps8
  go_wp2_with fail
  refine (new_any _).mono ?_
  rintro e w1 ⟨rfl, hV1, hk1⟩
  have hx1 := hV1.anyR.lt
  have hW1 : WorldAt (w1.alloc (.cells #[.pointer (some ⟨w.heap.size, 0, none⟩), .string ⟨#[]⟩, .slice none 0 0, .int .i64 0, .slice none 0 0, .slice none 0 0, .slice none 0 0, .slice none 0 0, .slice none 0 0] 49)) w1.heap.size w.heap.size ⟨#[]⟩ none :=
    ⟨heap_alloc_new _ _, rowsM_empty, fun g hg => by cases hg⟩
  have HW1 := (show Hid _ from hW1)
  clear hW1
  have hsz := hk1.size
  go_wp2
  go_loopg [6, 7] l.length (fun g i _ wr => ∃ (k : Nat), k ≤ l.length ∧ g = l.length - k ∧ i = .int .i64 k ∧ LaidR w wr w1.heap.size w.heap.size ∧ Kept [] w wr)
  case atStart => exact ⟨0, by omega, by omega, rfl, ⟨by omega, Nat.le_refl _, by omega, ⟨_, _, HW1.out, fine_empty, Or.inl rowsM_empty⟩, ⟨[], hV1.anyR.kept ((Kept.refl [] _).alloc _) (by simp), Or.inr ⟨rfl, by simp⟩, filesOk_nil⟩⟩, hk1.alloc _⟩
  case round =>
    obtain ⟨k, hk, hg, rfl, ⟨la, lb, lc, ⟨T, o, hW, hT, hRp⟩, ⟨fs, hV, hM⟩⟩, hkp⟩ := hrel
    have HRp := (show Hid _ from hRp)
    clear hRp
    by_cases hlt : k < l.length
    · rcases hc with h0 | ⟨cb, off, rfl, hcc⟩
      · omega
      · have hcb := hcc.1
        have hcr := (hcc.kept hkp (by simp)).2 k hlt
        have e0 : l.getD k ⟨#[]⟩ = l[k] := by rw [List.getD_eq_getElem?_getD, List.getElem?_eq_getElem hlt]; rfl
        have hcs := hls k hlt
        rw [e0] at hcs
        generalize l[k] = c at *
        clear e0
        go_wp2_with fail
        refine (chunk_anyR (N := 0) (by omega) w1.heap.size w.heap.size T c o fs _ hW hV lc hM hT hcs HRp).mono ?_
        rintro e w2 ⟨rfl, hW2, hV2, hk2⟩
        have hkw : Kept [] w w2 := ⟨hk2.os.trans hkp.os, hk2.tape.trans hkp.tape, hk2.output.trans hkp.output, Nat.le_trans hkp.size hk2.size, fun i hi _ => (hk2.block i (Nat.lt_of_lt_of_le hi hkp.size) (by simp; omega)).trans (hkp.block i hi (by simp))⟩
        go_wp2
        go_roundg (l.length - (k + 1))
        case measure => omega
        case rel => exact ⟨k + 1, by omega, rfl, by go_num, ⟨la, lb, lc, hW2, hV2⟩, hkw⟩
    · go_wp2
      go_ret2
      exact ⟨w1.heap.size, w.heap.size, rfl, ⟨la, lb, lc, ⟨T, o, hW, hT, HRp.out⟩, ⟨fs, hV, hM⟩⟩, hkp⟩
end Go.Proofs.YtcipkfhpcbddiaaGreat

/- Parted: the two texts. No walk. -/
namespace Go.Proofs.YtcipkfhpcbddiaaGreat
open Go.RowKit

def litC : ByteArray := ⟨#[10, 36, 40, 32, 97, 32, 36, 91, 32, 99, 111, 109, 109, 101, 110, 116, 32, 36, 46, 32, 36, 41, 10]⟩
def comC : ByteArray := ⟨#[36, 40, 32, 97, 32, 36, 91, 32, 99, 111, 109, 109, 101, 110, 116, 32, 36, 46, 32, 36, 41]⟩
def litI : ByteArray := ⟨#[36, 91, 32, 105, 32, 36, 93, 32, 36, 91, 32, 109, 32, 36, 93, 32, 36, 91, 32, 105, 32, 36, 93, 10]⟩
def hdI : ByteArray := ⟨#[36, 91, 32, 105, 32, 36, 93, 32, 36, 91, 32, 109, 32, 36, 93, 32, 36, 91, 32, 105, 32, 36, 93]⟩
theorem litC_size : litC.size = 23 := by decide +kernel
theorem comC_size : comC.size = 21 := by decide +kernel
theorem litI_size : litI.size = 24 := by decide +kernel
theorem litI_is : litI = hdI ++ ⟨#[10]⟩ := by decide +kernel
theorem hdI_size : hdI.size = 23 := by decide +kernel
theorem litC_bytes : ∀ i, i < 22 → byteAt litC (i + 1) = byteAt (comC ++ ⟨#[10]⟩) i := by decide +kernel
theorem litC_lf : byteAt litC 0 = 10 := by decide +kernel
theorem comRun : isWordF (runF comC 0).1 = true ∧ ((runF comC 0).1.text.toList == [36, 40]) = true ∧ (runF comC 0).1.fin = false ∧ (runF comC 0).2 = 2 := by decide +kernel
theorem comCom : isWordF (commentF comC 2).1 = true ∧ (commentF comC 2).1.rule = 0 ∧ (commentF comC 2).2 = 21 := by decide +kernel
theorem comEnd : (nextF comC 21).1.fin = true ∧ (nextF comC 21).1.rule = 0 := by decide +kernel

/-- The comment is passed over. -/
theorem com_next (c : ByteArray) : nextF (comC ++ ⟨#[10]⟩ ++ c) 0 = nextF (comC ++ ⟨#[10]⟩ ++ c) 22 := by
  have pr := pre_of comC c
  have r := (run_pre pr 0 (Nat.zero_le _)).1 comRun.2.2.1
  have cm := comment_pre pr 2 (by rw [comC_size]; omega) (by rw [comCom.2.1]; simp)
  have ne := (next_pre pr 21 (by rw [comC_size]; omega) (by rw [comEnd.2]; simp)).2 comEnd.1
  rw [comC_size] at ne
  rw [next_on _ 0 (Nat.zero_le _) (by rw [r]; exact comRun.1) (by rw [r]; exact comRun.2.1) (by rw [r, comRun.2.2.2, cm]; exact comCom.1), r, comRun.2.2.2, cm, comCom.2.2]
  exact ne
theorem K_size (T c : ByteArray) : (T ++ litC ++ c).size = T.size + 23 + c.size := by rw [ByteArray.size_append, ByteArray.size_append, litC_size]
theorem K_mid (T c : ByteArray) (i : Nat) (h : i < 23) : byteAt (T ++ litC ++ c) (T.size + i) = byteAt litC i := by
  rw [byteAt_append_left _ _ _ (by rw [ByteArray.size_append, litC_size]; omega), byteAt_append_right T litC i (by rw [litC_size]; exact h)]
theorem K_right (T c : ByteArray) (i : Nat) (h : i < c.size) : byteAt (T ++ litC ++ c) (T.size + 23 + i) = byteAt c i := by
  have := byteAt_append_right (T ++ litC) c i h
  rw [ByteArray.size_append, litC_size] at this; exact this
theorem K_tail (T c : ByteArray) : Tail T c (T ++ litC ++ c) (T.size + 23) := ⟨K_size T c, fun i hi => K_right T c i hi⟩
theorem K_pre (T c : ByteArray) : Pre T (T ++ litC ++ c) := by
  refine ⟨by rw [K_size]; omega, fun i hi => ?_, ?_⟩
  · rw [byteAt_append_left _ _ _ (by rw [ByteArray.size_append]; omega), byteAt_append_left _ _ _ hi]
  · have := K_mid T c 0 (by omega)
    rw [Nat.add_zero, litC_lf] at this; exact this
theorem K_next (T c : ByteArray) : nextF (T ++ litC ++ c) (T.size + 1) = nextF (T ++ litC ++ c) (T.size + 23) := by
  have s1 : (comC ++ ⟨#[10]⟩).size = 22 := by rw [ByteArray.size_append, comC_size, lf_size]
  have s2 : (comC ++ ⟨#[10]⟩ ++ c).size = 22 + c.size := by rw [ByteArray.size_append, s1]
  have sh : Shf (comC ++ ⟨#[10]⟩ ++ c) (T ++ litC ++ c) 0 (T.size + 1) := by
    refine ⟨Nat.zero_le _, by rw [K_size, s2]; omega, fun k _ hk => ?_⟩
    rw [s2] at hk
    rcases Nat.lt_or_ge k 22 with h | h
    · rw [show k - 0 + (T.size + 1) = T.size + (k + 1) by omega, K_mid T c (k + 1) (by omega), litC_bytes k h, byteAt_append_left (comC ++ ⟨#[10]⟩) c k (by rw [s1]; exact h)]
    · obtain ⟨i, rfl⟩ : ∃ i, k = 22 + i := ⟨k - 22, by omega⟩
      rw [show 22 + i - 0 + (T.size + 1) = T.size + 23 + i by omega, K_right T c i (by omega)]
      have := byteAt_append_right (comC ++ ⟨#[10]⟩) c i (by omega)
      rw [s1] at this; exact this.symm
  have e0 := next_sh sh 0 (Nat.le_refl _) (Nat.zero_le _)
  have e1 := next_sh sh 22 (Nat.zero_le _) (by rw [s2]; omega)
  rw [show 0 - 0 + (T.size + 1) = T.size + 1 by omega] at e0
  rw [show 22 - 0 + (T.size + 1) = T.size + 23 by omega] at e1
  rw [e0, e1, com_next c]
theorem litC_line : ∀ i, i < 23 → (byteAt litC i == 10) = (i == 0 || i == 22) := by decide +kernel
theorem K_line (T c : ByteArray) : lineAt (T ++ litC ++ c) (T.size + 23) = lineAt T T.size + 2 ∧ colAt (T ++ litC ++ c) (T.size + 23) = 1 := by
  have pr := K_pre T c
  have h0 := (line_pre pr T.size (Nat.le_refl _)).1
  have step : ∀ i, i ≤ 22 → lineAt (T ++ litC ++ c) (T.size + i) = lineAt T T.size + (if i = 0 then 0 else 1) := by
    intro i
    induction i with
    | zero => intro _; rw [Nat.add_zero, h0]; simp
    | succ i ih =>
      intro hi
      rw [← Nat.add_assoc, lineAt, K_mid T c i (by omega), ih (by omega), litC_line i (by omega)]
      by_cases e : i = 0
      · subst e; simp
      · have e2 : (i == 0 || i == 22) = false := by simp; omega
        rw [e2]; simp [e]
  have h22 := step 22 (Nat.le_refl _)
  refine ⟨?_, ?_⟩
  · rw [show T.size + 23 = T.size + 22 + 1 by omega, lineAt, K_mid T c 22 (by omega), h22, litC_line 22 (by omega)]
    simp; omega
  · rw [show T.size + 23 = T.size + 22 + 1 by omega, colAt, K_mid T c 22 (by omega), litC_line 22 (by omega)]
    simp

/-- What the chunk's fault becomes. -/
def fltTail (U : ByteArray) (δ : Int) : Flt := if ((rdM U).1.1 == 0) = true then noFlt else ((rdM U).1.1, ⟨⟨#[109]⟩, lineAt U (rdM U).1.2 + δ, colAt U (rdM U).1.2⟩)
theorem fltTail_of (T c V : ByteArray) (a' : Nat) (hT : Fine T) (h : Tail T c V a') (hcol : colAt V a' = 1) :
    fltOf ⟨#[109]⟩ V (shQ (T.size + 1) a' (rdM (T ++ ⟨#[10]⟩ ++ c)).1) = fltTail (T ++ ⟨#[10]⟩ ++ c) (lineAt V a' - (lineAt T T.size + 1)) := by
  unfold fltOf fltTail shQ
  cases hr : ((rdM (T ++ ⟨#[10]⟩ ++ c)).1.1 == 0) with
  | true => simp only [if_true, hr]
  | false =>
    simp only [Bool.false_eq_true, if_false, hr]
    have hne : (rdM (T ++ ⟨#[10]⟩ ++ c)).1.1 ≠ 0 := by simpa using hr
    have rp := (read_pre (pre_of T c) ⟨#[109]⟩ 0 emptyDb (Nat.zero_le _) hT.ok).2
    have e : rdM (T ++ ⟨#[10]⟩ ++ c) = readF ⟨#[109]⟩ (T ++ ⟨#[10]⟩ ++ c) (T.size + 1) (rdM T).2 := rp
    have sz : (T ++ ⟨#[10]⟩ ++ c).size = T.size + 1 + c.size := by rw [ByteArray.size_append, ByteArray.size_append, lf_size]
    have hp := readF_pos ⟨#[109]⟩ (T ++ ⟨#[10]⟩ ++ c) (T.size + 1) (rdM T).2 (by omega) (by rw [← e]; exact hne)
    rw [← e] at hp
    have lu := line_U T c
    have ls := line_sh (tail_shf T c V a' h).1 (by rw [hcol, lu.2]) _ hp.1 hp.2
    unfold plAt
    rw [ls.1, ls.2, lu.1]

/-- Said of the text with a comment between. -/
theorem read_K (T c : ByteArray) (hT : Fine T) (hc : holdsF c = false) (fs : List (ByteArray × ByteArray)) (x : Nat) (hx : x < 4) (hn : fileNm fs x = ⟨#[109]⟩) (hd : fileDt fs x = T ++ litC ++ c) (hs : (T ++ litC ++ c).size ≤ 1024) :
    (readAll fs x).1 = fltTail (T ++ ⟨#[10]⟩ ++ c) 1 ∧ (readAll fs x).2.2.sts = mapSts (fun i => if i < (rdM T).2.sts.length then (fun p => p) else πL 1) (rdM (T ++ ⟨#[10]⟩ ++ c)).2.sts := by
  have kl := K_line T c
  have kt := K_tail T c
  have sz := K_size T c
  have hb : bg0.getD x true = false := by
    match x, hx with
    | 0, _ => rfl
    | 1, _ => rfl
    | 2, _ => rfl
    | 3, _ => rfl
  have e0 : readAll fs x = readGo fs 5000 x 0 (bg0.set x true) emptyDb := by unfold readAll fileR; rw [if_neg (by rw [hb]; simp)]
  obtain ⟨f', hf', e1⟩ := go_pre fs x T (by rw [hd]; exact K_pre T c) (noInc_of T hT.inc) _ 5000 0 (bg0.set x true) emptyDb (Nat.le_refl _) (Nat.zero_le _) (by rw [hn]; exact hT.ok) (by omega)
  have e2 := readGo_congr fs f' x (T.size + 1) (T.size + 23) (bg0.set x true) (readF (fileNm fs x) T 0 emptyDb).2 (by rw [hd]; exact K_next T c)
  have e3 := go_from fs x (T.size + 23) (by rw [hd]; exact tail_noInc T c _ _ kt hc) f' (T.size + 23) (bg0.set x true) (readF (fileNm fs x) T 0 emptyDb).2 (Nat.le_refl _) (by rw [hd]; omega) (by rw [hd]; omega)
  have ed : (rdM T).2 = { (rdM T).2 with sts := (rdM T).2.sts.map (mapSt (fun p => p)) } := by
    have : (rdM T).2.sts.map (mapSt (fun p => p)) = (rdM T).2.sts := by
      rw [show mapSt (fun p => p) = id from funext mapSt_id, List.map_id]
    rw [this]
  have er : (readF (fileNm fs x) T 0 emptyDb).2 = (rdM T).2 := by rw [hn]; rfl
  have tr := tail_read T c (T ++ litC ++ c) (T.size + 23) hT kt kl.2 (fun p => p)
  rw [← ed] at tr
  have eδ : lineAt (T ++ litC ++ c) (T.size + 23) - (lineAt T T.size + 1) = 1 := by rw [kl.1]; omega
  have ft := fltTail_of T c (T ++ litC ++ c) (T.size + 23) hT kt kl.2
  rw [eδ] at tr ft
  rw [e0, e1, e2, e3, er, hn, hd, tr]
  exact ⟨ft, rfl⟩

end Go.Proofs.YtcipkfhpcbddiaaGreat

/- Parted: the text in a file of its own. No walk. -/
namespace Go.Proofs.YtcipkfhpcbddiaaGreat
open Go.RowKit

theorem I_size (c : ByteArray) : (litI ++ c).size = 24 + c.size := by rw [ByteArray.size_append, litI_size]
theorem I_tail (T c : ByteArray) : Tail T c (litI ++ c) 24 := by
  refine ⟨I_size c, fun i hi => ?_⟩
  have := byteAt_append_right litI c i hi
  rw [litI_size] at this; exact this
theorem I_pre (c : ByteArray) : Pre hdI (litI ++ c) := by rw [litI_is]; exact pre_of hdI c
theorem litI_line : ∀ i, i < 24 → (byteAt litI i == 10) = (i == 23) := by decide +kernel
theorem I_line (c : ByteArray) : lineAt (litI ++ c) 24 = 2 ∧ colAt (litI ++ c) 24 = 1 := by
  have b : ∀ i, i < 24 → byteAt (litI ++ c) i = byteAt litI i := fun i hi => byteAt_append_left _ _ _ (by rw [litI_size]; exact hi)
  have step : ∀ i, i ≤ 23 → lineAt (litI ++ c) i = 1 := by
    intro i
    induction i with
    | zero => intro _; rfl
    | succ i ih =>
      intro hi
      have e2 : (i == 23) = false := by simp; omega
      rw [lineAt, b i (by omega), ih (by omega), litI_line i (by omega), e2]; simp
  refine ⟨?_, ?_⟩
  · rw [show (24 : Nat) = 23 + 1 from rfl, lineAt, b 23 (by omega), step 23 (Nat.le_refl _), litI_line 23 (by omega)]; simp
  · rw [show (24 : Nat) = 23 + 1 from rfl, colAt, b 23 (by omega), litI_line 23 (by omega)]; simp

/-- Three words of the head: an inclusion. -/
structure IncW (s : ByteArray) (k z1 z2 z3 : Nat) (nm : List UInt8) : Prop where
  w1 : isWordF (nextF s k).1 = true
  t1 : ((nextF s k).1.text.toList == [36, 91]) = true
  e1 : (nextF s k).2 = z1
  w2 : isWordF (nextF s z1).1 = true
  t2 : (nextF s z1).1.text.toList = nm
  e2 : (nextF s z1).2 = z2
  w3 : isWordF (nextF s z2).1 = true
  t3 : ((nextF s z2).1.text.toList == [36, 93]) = true
  e3 : (nextF s z2).2 = z3
theorem incW_of {s : ByteArray} {k z1 z2 z3 : Nat} {nm : List UInt8} (h : isWordF (nextF s k).1 = true ∧ ((nextF s k).1.text.toList == [36, 91]) = true ∧ (nextF s k).2 = z1 ∧ isWordF (nextF s z1).1 = true ∧ (nextF s z1).1.text.toList = nm ∧ (nextF s z1).2 = z2 ∧ isWordF (nextF s z2).1 = true ∧ ((nextF s z2).1.text.toList == [36, 93]) = true ∧ (nextF s z2).2 = z3) : IncW s k z1 z2 z3 nm :=
  ⟨h.1, h.2.1, h.2.2.1, h.2.2.2.1, h.2.2.2.2.1, h.2.2.2.2.2.1, h.2.2.2.2.2.2.1, h.2.2.2.2.2.2.2.1, h.2.2.2.2.2.2.2.2⟩
theorem incW1 : IncW hdI 0 2 4 7 (⟨#[105]⟩ : ByteArray).toList := incW_of (by decide +kernel)
theorem incW2 : IncW hdI 7 10 12 15 (⟨#[109]⟩ : ByteArray).toList := incW_of (by decide +kernel)
theorem incW3 : IncW hdI 15 18 20 23 (⟨#[105]⟩ : ByteArray).toList := incW_of (by decide +kernel)
theorem incEnd : (nextF hdI 23).1.fin = true ∧ (nextF hdI 23).1.rule = 0 := by decide +kernel
theorem incW_pre {s s' : ByteArray} (h : Pre s s') {k z1 z2 z3 : Nat} {nm : List UInt8} (w : IncW s k z1 z2 z3 nm) (hk : k ≤ s.size) (h1 : z1 ≤ s.size) (h2 : z2 ≤ s.size) : IncW s' k z1 z2 z3 nm := by
  have n1 := (next_pre h k hk (by rw [isWordF_eq w.w1]; simp)).1 (by rw [isWordF_eq w.w1])
  have n2 := (next_pre h z1 h1 (by rw [isWordF_eq w.w2]; simp)).1 (by rw [isWordF_eq w.w2])
  have n3 := (next_pre h z2 h2 (by rw [isWordF_eq w.w3]; simp)).1 (by rw [isWordF_eq w.w3])
  exact ⟨by rw [n1]; exact w.w1, by rw [n1]; exact w.t1, by rw [n1]; exact w.e1, by rw [n2]; exact w.w2, by rw [n2]; exact w.t2, by rw [n2]; exact w.e2, by rw [n3]; exact w.w3, by rw [n3]; exact w.t3, by rw [n3]; exact w.e3⟩
theorem inc_step (fs : List (ByteArray × ByteArray)) (f x k z1 z2 z3 j : Nat) (nm : ByteArray) (bg : List Bool) (d : Db) (w : IncW (fileDt fs x) k z1 z2 z3 nm.toList) (ho : openF d = false) (hd : dollarF nm = false) (hj : findF fs nm = j) :
    stepR fs f x k bg d = (fileR fs f j bg d, z3) := by
  have hnm : (nextF (fileDt fs x) z1).1.text = nm := bytes_ext w.t2
  unfold stepR wordR
  rw [if_pos w.t1, w.e1]
  unfold incR incF
  rw [if_neg (by rw [ho]; simp), if_neg (by rw [w.w2]; simp), hnm, if_neg (by rw [hd]; simp), hj, if_neg (by omega), w.e2, if_neg (by rw [w.w3]; simp), if_neg (by rw [w.t3]; simp), w.e3]
  simp

/-- Said of the chunk, the text being included. -/
theorem read_I (T c : ByteArray) (hT : Fine T) (hc : holdsF c = false) (fs : List (ByteArray × ByteArray)) (x y : Nat) (hxy : (x = 0 ∧ y = 1) ∨ (x = 1 ∧ y = 0)) (hn : fileNm fs x = ⟨#[109]⟩) (hd : fileDt fs x = litI ++ c) (hn2 : fileNm fs y = ⟨#[105]⟩) (hd2 : fileDt fs y = T)
    (hfx : findF fs ⟨#[109]⟩ = x) (hfy : findF fs ⟨#[105]⟩ = y) (hs : (litI ++ c).size ≤ 1024) :
    (readAll fs x).1 = fltTail (T ++ ⟨#[10]⟩ ++ c) (1 - lineAt T T.size) ∧ (readAll fs x).2.2.sts = mapSts (fun i => if i < (rdM T).2.sts.length then πF else πL (1 - lineAt T T.size)) (rdM (T ++ ⟨#[10]⟩ ++ c)).2.sts := by
  have kl := I_line c
  have kt := I_tail T c
  have sz := I_size c
  have hts := hT.size
  have pr := I_pre c
  have hbx : bg0.getD x true = false ∧ (bg0.set x true).getD y true = false ∧ ((bg0.set x true).set y true).getD x true = true ∧ ((bg0.set x true).set y true).getD y true = true := by
    rcases hxy with ⟨rfl, rfl⟩ | ⟨rfl, rfl⟩ <;> exact ⟨rfl, rfl, rfl, rfl⟩
  obtain ⟨b1, b2, b3, b4⟩ := hbx
  obtain ⟨ho, hp, hl⟩ := hT.left
  -- the text under its other name
  have h00 : Shf T T 0 0 := ⟨Nat.zero_le _, by omega, fun k _ _ => by simp⟩
  have ri := read_sh h00 ⟨#[109]⟩ ⟨#[105]⟩ (fun _ => πF) 0 (fun q _ _ i _ => by unfold πF plAt; rw [if_neg (show ¬ ((⟨#[109]⟩ : ByteArray).toList == []) = true by decide +kernel)]; rfl) 0 emptyDb (Nat.le_refl _) (Nat.zero_le _) (Nat.zero_le _) noLeft_empty
  have ei : readF ⟨#[105]⟩ T 0 emptyDb = ((rdM T).1, { (rdM T).2 with sts := (rdM T).2.sts.map (mapSt πF) }) := by
    have e1 : mapDb (fun _ => πF) emptyDb = emptyDb := rfl
    have e2 : mapDb (fun _ => πF) (rdM T).2 = { (rdM T).2 with sts := (rdM T).2.sts.map (mapSt πF) } := by rw [mapDb_closed _ _ hp, mapSts_const]
    have e3 : shQ 0 0 (rdM T).1 = (rdM T).1 := by unfold shQ; split <;> simp
    rw [e1] at ri
    have ri' : readF ⟨#[105]⟩ T 0 emptyDb = (shQ 0 0 (rdM T).1, mapDb (fun _ => πF) (rdM T).2) := ri
    rw [ri', e2, e3]
  have e0 : readAll fs x = readGo fs 5000 x 0 (bg0.set x true) emptyDb := by unfold readAll fileR; rw [if_neg (by rw [b1]; simp)]
  have w1 : IncW (fileDt fs x) 0 2 4 7 (⟨#[105]⟩ : ByteArray).toList := by rw [hd]; exact incW_pre pr incW1 (by rw [hdI_size]; omega) (by rw [hdI_size]; omega) (by rw [hdI_size]; omega)
  have w2 : IncW (fileDt fs x) 7 10 12 15 (⟨#[109]⟩ : ByteArray).toList := by rw [hd]; exact incW_pre pr incW2 (by rw [hdI_size]; omega) (by rw [hdI_size]; omega) (by rw [hdI_size]; omega)
  have w3 : IncW (fileDt fs x) 15 18 20 23 (⟨#[105]⟩ : ByteArray).toList := by rw [hd]; exact incW_pre pr incW3 (by rw [hdI_size]; omega) (by rw [hdI_size]; omega) (by rw [hdI_size]; omega)
  have s1 := inc_step fs 4999 x 0 2 4 7 y ⟨#[105]⟩ (bg0.set x true) emptyDb w1 rfl (by decide +kernel) hfy
  have f1 : fileR fs 4999 y (bg0.set x true) emptyDb = (noFlt, (bg0.set x true).set y true, { (rdM T).2 with sts := (rdM T).2.sts.map (mapSt πF) }) := by
    unfold fileR
    rw [if_neg (by rw [b2]; simp), go_plain fs y (by rw [hd2]; exact noInc_of T hT.inc) 4999 0 _ _ (Nat.zero_le _) (by rw [hd2]; omega), hn2, hd2, ei]
    unfold fltOf
    simp only [hT.ok]
    rfl
  rw [f1] at s1
  have s2 := inc_step fs 4998 x 7 10 12 15 x ⟨#[109]⟩ ((bg0.set x true).set y true) { (rdM T).2 with sts := (rdM T).2.sts.map (mapSt πF) } w2 ho (by decide +kernel) hfx
  have f2 : fileR fs 4998 x ((bg0.set x true).set y true) { (rdM T).2 with sts := (rdM T).2.sts.map (mapSt πF) } = (noFlt, (bg0.set x true).set y true, { (rdM T).2 with sts := (rdM T).2.sts.map (mapSt πF) }) := by unfold fileR; rw [if_pos b3]
  rw [f2] at s2
  have s3 := inc_step fs 4997 x 15 18 20 23 y ⟨#[105]⟩ ((bg0.set x true).set y true) { (rdM T).2 with sts := (rdM T).2.sts.map (mapSt πF) } w3 ho (by decide +kernel) hfy
  have f3 : fileR fs 4997 y ((bg0.set x true).set y true) { (rdM T).2 with sts := (rdM T).2.sts.map (mapSt πF) } = (noFlt, (bg0.set x true).set y true, { (rdM T).2 with sts := (rdM T).2.sts.map (mapSt πF) }) := by unfold fileR; rw [if_pos b4]
  rw [f3] at s3
  have g1 := go_on fs 4999 x 0 (bg0.set x true) emptyDb w1.w1 (by rw [s1]; rfl)
  have g2 := go_on fs 4998 x 7 ((bg0.set x true).set y true) { (rdM T).2 with sts := (rdM T).2.sts.map (mapSt πF) } w2.w1 (by rw [s2]; rfl)
  have g3 := go_on fs 4997 x 15 ((bg0.set x true).set y true) { (rdM T).2 with sts := (rdM T).2.sts.map (mapSt πF) } w3.w1 (by rw [s3]; rfl)
  rw [s1] at g1
  rw [s2] at g2
  rw [s3] at g3
  have hn24 : nextF (fileDt fs x) 23 = nextF (fileDt fs x) 24 := by
    have := (next_pre pr 23 (by rw [hdI_size]; omega) (by rw [incEnd.2]; simp)).2 incEnd.1
    rw [hdI_size] at this
    rw [hd]; exact this
  have g4 := readGo_congr fs 4997 x 23 24 ((bg0.set x true).set y true) { (rdM T).2 with sts := (rdM T).2.sts.map (mapSt πF) } hn24
  have g5 := go_from fs x 24 (by rw [hd]; exact tail_noInc T c _ _ kt hc) 4997 24 ((bg0.set x true).set y true) { (rdM T).2 with sts := (rdM T).2.sts.map (mapSt πF) } (Nat.le_refl _) (by rw [hd]; omega) (by rw [hd]; omega)
  have tr := tail_read T c (litI ++ c) 24 hT kt kl.2 πF
  have eδ : lineAt (litI ++ c) 24 - (lineAt T T.size + 1) = 1 - lineAt T T.size := by rw [kl.1]; omega
  have ft := fltTail_of T c (litI ++ c) 24 hT kt kl.2
  rw [eδ] at tr ft
  have fin : readAll fs x = (fltOf ⟨#[109]⟩ (litI ++ c) (shQ (T.size + 1) 24 (rdM (T ++ ⟨#[10]⟩ ++ c)).1), (bg0.set x true).set y true, mapDb (fun i => if i < (rdM T).2.sts.length then πF else πL (1 - lineAt T T.size)) (rdM (T ++ ⟨#[10]⟩ ++ c)).2) := by
    rw [e0]
    refine g1.trans ?_
    refine g2.trans ?_
    refine g3.trans ?_
    rw [g4, g5, hn, hd, tr]
  rw [fin]
  exact ⟨ft, rfl⟩

end Go.Proofs.YtcipkfhpcbddiaaGreat

/- What holds of a record's places holds of the rows' places. No walk. -/
namespace Go.Proofs.YtcipkfhpcbddiaaGreat
open Go.RowKit

/-- A property of places that no column turns. -/
structure PlP (P : Pl → Prop) : Prop where
  none : P noPl
  col : ∀ p c, P p → P { p with col := c }
theorem PlP.flt {P : Pl → Prop} (h : PlP P) : P noFlt.2 := h.none
def PsOk (P : Pl → Prop) (l : List St) : Prop := ∀ s ∈ l, P s.fin ∧ ∀ x ∈ s.proof, P x.2

theorem norm_pp {P : Pl → Prop} (hP : PlP P) (l : List St) (a : Nat) (fin : Pl) (hf : P fin) (ws : List (ByteArray × Pl)) (hw : ∀ x ∈ ws, P x.2) : ∀ acc, (∀ s ∈ acc, P s.at_) → (∀ s ∈ (normF l a fin ws acc).1, P s.at_) ∧ P (normF l a fin ws acc).2.2 := by
  induction ws with
  | nil =>
    intro acc ha
    rw [normF]
    split
    · exact ⟨by simp, hf⟩
    · exact ⟨ha, hP.flt⟩
  | cons x r ih =>
    intro acc ha
    obtain ⟨t, p⟩ := x
    have hp := hw (t, p) (by simp)
    have hr := fun y hy => hw y (List.mem_cons_of_mem _ hy)
    have hacc : ∀ k n, ∀ s ∈ acc ++ [(⟨k, n, p⟩ : Stp)], P s.at_ := by
      intro k n s hs
      rcases List.mem_append.1 hs with hs | hs
      · exact ha s hs
      · rw [List.mem_singleton.1 hs]; exact hp
    rw [normF]
    split
    · exact ih hr _ (hacc _ _)
    · split
      · exact ⟨by simp, hp⟩
      · exact ih hr _ (hacc _ _)
theorem block_pp {P : Pl → Prop} (hP : PlP P) (l : List St) (a : Nat) (fin : Pl) (hf : P fin) (ws : List (ByteArray × Pl)) (hw : ∀ x ∈ ws, P x.2) : ∀ i ns, P (blockL l a fin i ws ns).1.2.2 := by
  induction ws with
  | nil => intro i ns; exact hf
  | cons x r ih =>
    intro i ns
    obtain ⟨t, p⟩ := x
    have hp := hw (t, p) (by simp)
    rw [blockL]
    split
    · exact hP.flt
    · split
      · exact hp
      · split
        · exact hp
        · exact ih (fun y hy => hw y (List.mem_cons_of_mem _ hy)) _ _
def CmpPp (P : Pl → Prop) (c : Cmp) : Prop := ∀ s ∈ c.steps, P s.at_
theorem add_pp {P : Pl → Prop} (_hP : PlP P) {c : Cmp} (h : CmpPp P c) (s : Stp) (hs : P s.at_) : ∀ x ∈ c.steps ++ [s], P x.at_ := by
  intro x hx
  rcases List.mem_append.1 hx with hx | hx
  · exact h x hx
  · rw [List.mem_singleton.1 hx]; exact hs
theorem let_pp {P : Pl → Prop} (hP : PlP P) {c : Cmp} (h : CmpPp P c) (n : Nat) (p : Pl) (hp : P p) : CmpPp P (takeLetF c n p).2 := by
  unfold takeLetF
  split
  · unfold endNumF
    split
    · exact add_pp hP h _ hp
    · split
      · exact add_pp hP h _ hp
      · exact h
  · split
    · unfold takeDigF; split <;> exact h
    · split
      · exact h
      · split
        · exact add_pp hP h _ hp
        · exact h
theorem word_pp {P : Pl → Prop} (hP : PlP P) (t : ByteArray) (p : Pl) (hp : P p) (f : Nat) : ∀ j c, CmpPp P c → CmpPp P (wordLet t p f j c).2 ∧ P (wordLet t p f j c).1.2 := by
  induction f with
  | zero => intro j c h; exact ⟨h, hP.flt⟩
  | succ f ih =>
    intro j c h
    rw [wordLet]
    split
    · split
      · exact ih _ _ (let_pp hP h _ _ (hP.col _ _ hp))
      · exact ⟨let_pp hP h _ _ (hP.col _ _ hp), hP.col _ _ hp⟩
    · exact ⟨h, hP.flt⟩
theorem words_pp {P : Pl → Prop} (hP : PlP P) (ws : List (ByteArray × Pl)) (hw : ∀ x ∈ ws, P x.2) : ∀ c, CmpPp P c → CmpPp P (wordsLF ws c).2 ∧ P (wordsLF ws c).1.2 := by
  induction ws with
  | nil => intro c h; exact ⟨h, hP.flt⟩
  | cons x r ih =>
    intro c h
    obtain ⟨t, p⟩ := x
    have h1 := word_pp hP t p (hw (t, p) (by simp)) (t.size + 1) 0 c h
    rw [wordsLF]
    split
    · exact ih (fun y hy => hw y (List.mem_cons_of_mem _ hy)) _ h1.1
    · exact h1
theorem prf_pp {P : Pl → Prop} (hP : PlP P) (l : List St) (a : Nat) (s : St) (hf : P s.fin) (hw : ∀ x ∈ s.proof, P x.2) : (∀ x ∈ (prfF l a s).1, P x.at_) ∧ P (prfF l a s).2.2 := by
  unfold prfF
  split
  · unfold compF
    have hR : CmpPp P (compR l a s).2 ∧ P (compR l a s).1.2 := by
      unfold compR onw
      split
      · exact words_pp hP _ (fun y hy => hw y (List.mem_of_mem_drop hy)) _ (by intro x hx; cases hx)
      · exact ⟨(by intro x hx; cases hx), block_pp hP l a s.fin hf _ (fun y hy => hw y (List.mem_of_mem_drop hy)) _ _⟩
    unfold compE
    split
    · split
      · split
        · exact ⟨by simp, hf⟩
        · exact ⟨hR.1, hP.flt⟩
      · exact ⟨by simp, hf⟩
    · exact ⟨by simp, hR.2⟩
  · exact norm_pp hP l a s.fin hf s.proof hw [] (by simp)
theorem play_pp {P : Pl → Prop} (hP : PlP P) (l : List St) (vs : List ByteArray) (ms : List Bool) (fin : Pl) (hf : P fin) (goal : List ByteArray) (steps : List Stp) (h : ∀ x ∈ steps, P x.at_) : ∀ S, P (playAll l vs ms fin goal steps S).2 := by
  induction steps with
  | nil =>
    intro S
    rw [playAll]
    unfold leftF
    split
    · exact hf
    · split
      · exact hP.flt
      · exact hf
    · exact hf
  | cons s r ih =>
    intro S
    rw [playAll]
    split
    · exact ih (fun y hy => h y (List.mem_cons_of_mem _ hy)) _
    · exact h s (by simp)
theorem judge_pp {P : Pl → Prop} (hP : PlP P) (l : List St) (n : Nat) (s : St) (L : List Rw) (hf : P s.fin) (hw : ∀ x ∈ s.proof, P x.2) : P (judgeF l n s L).at_ := by
  have hp := prf_pp hP l n s hf hw
  unfold judgeF
  have hfl : P (if (unkF (prfF l n s).1).isNone = true ∧ ((prfF l n s).2.1 == 0) = true then playAllF l n s (prfF l n s).1 else (prfF l n s).2).2 := by
    split
    · exact play_pp hP _ _ _ _ hf _ _ hp.1 _
    · exact hp.2
  generalize (if (unkF (prfF l n s).1).isNone = true ∧ ((prfF l n s).2.1 == 0) = true then playAllF l n s (prfF l n s).1 else (prfF l n s).2) = f at *
  unfold judgeR
  split
  · split
    · next u hu =>
      show P (((prfF l n s).1[u]?).map Stp.at_ |>.getD noPl)
      cases e : (prfF l n s).1[u]? with
      | none => exact hP.none
      | some x => exact hp.1 x (List.mem_of_getElem? e)
    · split <;> exact hP.none
  · exact hfl
theorem up_pp {P : Pl → Prop} (hP : PlP P) (l : List St) (h : PsOk P l) (k : Nat) : ∀ r ∈ rowsUp l k, P r.at_ := by
  induction k with
  | zero => intro r hr; cases hr
  | succ k ih =>
    intro r hr
    rw [rowsUp] at hr
    rcases List.mem_append.1 hr with hr | hr
    · exact ih r hr
    · rw [List.mem_singleton.1 hr]
      unfold oneRow
      split
      · next s hs =>
        have hm := h s (List.mem_of_getElem? hs)
        split
        · exact hP.none
        · split
          · exact judge_pp hP l k s _ hm.1 hm.2
          · exact hP.none
      · exact hP.none

theorem rows_pp {P : Pl → Prop} (hP : PlP P) (l : List St) (h : PsOk P l) : ∀ r ∈ rowsF l, P r.at_ := fun r hr => up_pp hP l h _ r (List.mem_filter.1 hr).1

/-- Places of one file. -/
structure FileIs (n : ByteArray) (d : Db) : Prop where
  now : ∀ x ∈ d.proof, x.2.file = n
  sts : ∀ s ∈ d.sts, s.fin.file = n ∧ ∀ x ∈ s.proof, x.2.file = n
theorem FileIs.take {n : ByteArray} {d : Db} (h : FileIs n d) (x : ByteArray) (p : Pl) (hp : p.file = n) : FileIs n (takeF d x p).2 := by
  refine ⟨?_, ?_⟩
  · rcases take_proof d x p with e | e | e
    · rw [e]; exact h.now
    · rw [e]; simp
    · rw [e]
      intro y hy
      rcases List.mem_append.1 hy with hy | hy
      · exact h.now y hy
      · rw [List.mem_singleton.1 hy]; exact hp
  · rcases take_sts d x p with e | ⟨y, _, e⟩ | ⟨e, _⟩
    · rw [e]; exact h.sts
    · rw [e]
      intro s hs
      obtain ⟨s', hs', e1, e2, e3⟩ := mem_endSts hs
      rw [e2, e3]; exact h.sts s' hs'
    · rw [e]
      intro s hs
      rcases List.mem_append.1 hs with hs | hs
      · exact h.sts s hs
      · rw [List.mem_singleton.1 hs]; exact ⟨hp, h.now⟩
theorem file_read (n s : ByteArray) (f : Nat) : ∀ k d, FileIs n d → FileIs n (readTo n s f k d).2 := by
  induction f with
  | zero => intro k d h; exact h
  | succ f ih =>
    intro k d h
    rw [readTo]
    split
    · split
      · exact ih _ _ (h.take _ _ rfl)
      · exact h.take _ _ rfl
    · split
      · split <;> exact h
      · exact h
theorem rdM_file (T : ByteArray) : FileIs ⟨#[109]⟩ (rdM T).2 := file_read _ T _ 0 emptyDb ⟨by simp [emptyDb], by simp [emptyDb]⟩
/-- A row's place is none, or one of the file m. -/
theorem rowsM_file (T : ByteArray) : ∀ r ∈ rowsM T, r.at_.file = ⟨#[]⟩ ∨ r.at_.file = ⟨#[109]⟩ :=
  rows_pp (P := fun p => p.file = ⟨#[]⟩ ∨ p.file = ⟨#[109]⟩) ⟨Or.inl rfl, fun _ _ h => h⟩ (rdM T).2.sts (fun s hs => ⟨Or.inr ((rdM_file T).sts s hs).1, fun x hx => Or.inr (((rdM_file T).sts s hs).2 x hx)⟩)

end Go.Proofs.YtcipkfhpcbddiaaGreat
