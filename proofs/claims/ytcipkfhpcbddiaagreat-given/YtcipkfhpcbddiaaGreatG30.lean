/- Our texts: FrT, SeeC, SeeR, KeepR, GvF, GvG, GvI, GvJ, GvK, GvL, Gv4. -/
import Derived.Deep.RegionHeld3
import Derived.Test.YtcipkfhpcbddiaaGreatG19
import Derived.Test.YtcipkfhpcbddiaaGreatG20
import Derived.Test.YtcipkfhpcbddiaaGreatG22
import Derived.Test.YtcipkfhpcbddiaaGreatG24
import Derived.Test.YtcipkfhpcbddiaaGreatG29
/- The verifier: Frame. -/
namespace Go.Proofs.YtcipkfhpcbddiaaGreat
open Go.RowKit

theorem RptAt.recd {w : World} {x : Nat} {fs : List (ByteArray × ByteArray)} {l : List St} {H : Nat → Hd} {g : Nat} (h : RptAt w x fs l H g) : RecAt w x 10 l H := by
  obtain ⟨a7, n7, c7, hv⟩ := h.ver
  exact ⟨⟨_, _, hv.1, rfl⟩, h.sts⟩

theorem rfind_any (b o : Nat) (lab : ByteArray) (l : List St) (H : Nat → Hd) (w : World) (h : RecAt w b o l H) (hl : l.length ≤ 1073741824) :
    Calls Tryz.prog 47 #[.pointer (some ⟨b, o, none⟩), .string lab] w fun e w' => e = .returned (.int .i64 (optV (findAF l lab))) ∧ Kept [] w w' := by
  have HFA := (show Hid _ from findAssertion_any b o lab l H w h hl)
  go_enter Tryz.func47, Tryz.ntmps47
  go_wp2_with fail
  refine Calls.mono HFA.out ?_
  rintro e w1 ⟨rfl, k1⟩
  go_wp2
  go_ret
  exact ⟨rfl, k1⟩

set_option maxHeartbeats 1000000 in
theorem rframe_any (b o a : Nat) (l : List St) (H : Nat → Hd) (w : World) (h : RecAt w b o l H) (ha : a < l.length) (ok : RecOk l) (hz : SzsOk l) (hka : l[a].kind ≠ 1) :
    Calls Tryz.prog 39 #[.pointer (some ⟨b, o, none⟩), .int .i64 a] w fun e w' => ∃ g, e = .returned (.slice (some ⟨g, 0, none⟩) (linesF l a).length (linesF l a).length) ∧ LnsAt w' g (linesF l a) (linesF l a).length ∧ w.heap.size ≤ g ∧ Kept [] w w' := by
  have HFA := (show Hid _ from lines_any' b o a l H w h ha ok hz hka)
  go_enter Tryz.func39, Tryz.ntmps39
  go_wp2_with fail
  refine Calls.mono HFA.out ?_
  rintro e w1 ⟨g, rfl, h1, h2, k1⟩
  go_wp2
  go_ret
  exact ⟨g, rfl, h1, h2, k1⟩

set_option maxHeartbeats 1000000 in
theorem vfind_any (x : Nat) (fs : List (ByteArray × ByteArray)) (l : List St) (H : Nat → Hd) (g : Nat) (lab : ByteArray) (w : World) (h : RptAt w x fs l H g) (hl : l.length ≤ 1073741824) :
    Calls Tryz.prog 38 #[.pointer (some ⟨x, 0, none⟩), .string lab] w fun e w' => e = .returned (match findAF l lab with | some n => .tuple #[.int .i64 n, .int .i64 0] | none => .tuple #[.int .i64 0, .int .i64 8]) ∧ Kept [] w w' := by
  have HFA := (show Hid _ from rfind_any x 10 lab l H w h.recd hl)
  obtain ⟨a7, n7, c7, hv⟩ := h.ver
  obtain ⟨c9, c10, c11, c12⟩ := VerAt.cells hv
  have hxw := TabAt.lt hv
  cases hf : findAF l lab with
  | none =>
    rw [hf] at HFA
    simp only [optV] at HFA
    go_enter Tryz.func38, Tryz.ntmps38
    go_wp2_with fail
    refine Calls.mono HFA.out ?_
    rintro e w1 ⟨rfl, k1⟩
    go_wp2
    go_ret2
    exact ⟨rfl, k1⟩
  | some n =>
    rw [hf] at HFA
    simp only [optV] at HFA
    have hn0 : ¬ (n : Int) < 0 := by omega
    go_enter Tryz.func38, Tryz.ntmps38
    go_wp2_with fail
    refine Calls.mono HFA.out ?_
    rintro e w1 ⟨rfl, k1⟩
    go_wp2
    go_ret2
    exact ⟨rfl, k1⟩

/-- What Frame answers. -/
def FrameSays (l : List St) (lab : ByteArray) (w : World) (e : Ending) (w' : World) : Prop :=
  Kept [] w w' ∧ match findAF l lab with
    | some n => ∃ g, e = .returned (.tuple #[.slice (some ⟨g, 0, none⟩) (linesF l n).length (linesF l n).length, .int .i64 0]) ∧ LnsAt w' g (linesF l n) (linesF l n).length ∧ w.heap.size ≤ g
    | none => e = .returned (.tuple #[.slice none 0 0, .int .i64 8])
theorem findA_lt {l : List St} {lab : ByteArray} {n : Nat} (h : findAF l lab = some n) : ∃ h : n < l.length, isA l[n].kind = true ∧ l[n].label.toList = lab.toList := by
  unfold findAF at h
  have hm := List.mem_range.1 (List.mem_of_find?_eq_some h)
  have hs := List.find?_some h
  rw [namesA_eq l lab n hm] at hs
  simp only [Bool.and_eq_true] at hs
  exact ⟨hm, hs.2, by simpa using hs.1⟩

set_option maxHeartbeats 1000000 in
theorem vframe_any (x : Nat) (fs : List (ByteArray × ByteArray)) (l : List St) (H : Nat → Hd) (g : Nat) (lab : ByteArray) (w : World) (h : RptAt w x fs l H g) (ok : RecOk l) (hz : SzsOk l) :
    Calls Tryz.prog 28 #[.pointer (some ⟨x, 0, none⟩), .string lab] w fun e w' => FrameSays l lab w e w' := by
  have hlen := ok.len
  have VF := vfind_any x fs l H g lab w h (by omega)
  have hxw := TabAt.lt (Classical.choose_spec (Classical.choose_spec (Classical.choose_spec h.ver)))
  unfold FrameSays
  cases hf : findAF l lab with
  | none =>
    rw [hf] at VF
    have HVF := (show Hid _ from VF)
    clear VF
    go_enter Tryz.func28, Tryz.ntmps28
    go_wp2_with fail
    refine Calls.mono HVF.out ?_
    rintro e w1 ⟨rfl, k1⟩
    go_wp2
    go_ret2
    exact ⟨k1, rfl⟩
  | some n =>
    rw [hf] at VF
    obtain ⟨hn, ha, -⟩ := findA_lt hf
    have hk1 : l[n].kind ≠ 1 := by intro e; rw [e] at ha; revert ha; decide
    have HVF := (show Hid _ from VF)
    clear VF
    go_enter Tryz.func28, Tryz.ntmps28
    go_wp2_with fail
    refine Calls.mono HVF.out ?_
    rintro e w1 ⟨rfl, k1⟩
    have hr1 := (h.still k1).recd
    have hx1 := hr1.lt
    go_wp2_with fail
    refine (rframe_any x 10 n l H w1 hr1 hn ok hz hk1).mono ?_
    rintro e w2 ⟨g2, rfl, h2, h3, k2⟩
    have hs := k1.size
    go_wp2
    go_ret2
    exact ⟨k1.trans k2, g2, rfl, h2, by omega⟩

end Go.Proofs.YtcipkfhpcbddiaaGreat

/- Package metaproofkeep: see, whatever Verify says. -/
namespace Go.Proofs.YtcipkfhpcbddiaaGreat
open Go.RowKit
attribute [local go_sem] build_nofault

/-- What see leaves: the rule, the place, the record; the table. -/
def CoreSays (b x : Nat) (T : ByteArray) (o : Option Nat) (fs' : List (ByteArray × ByteArray)) (r ln cl : Int) (l : List St) (w : World) (e : Ending) (w' : World) : Prop :=
  ∃ o', e = .returned (if (r == 0) = true then seenV (rowsSl o' (rowsF l).length) 0 ⟨#[]⟩ 0 0 0 else seenV (.slice none 0 0) r ⟨#[109]⟩ ln cl 6) ∧ ((r == 0) = true → RowsAt w' o' (rowsF l)) ∧ (∀ g, o' = some g → w.heap.size ≤ g) ∧ WorldAt w' b x T o ∧ SomeAt w' x fs' ∧ Kept [x] w w'
theorem core_bad {b x : Nat} {T : ByteArray} {o : Option Nat} {fs' : List (ByteArray × ByteArray)} {r ln cl : Int} {l : List St} {w w' : World} (hr : (r == 0) = false) (hW : WorldAt w' b x T o) (hF : SomeAt w' x fs') (hK : Kept [x] w w') :
    CoreSays b x T o fs' r ln cl l w (.returned (seenV (.slice none 0 0) r ⟨#[109]⟩ ln cl 6)) w' := by
  refine ⟨none, ?_, fun h => ?_, fun g h => (by cases h), hW, hF, hK⟩
  · rw [if_neg (by rw [hr]; simp)]
  · rw [hr] at h; cases h
theorem core_good {b x : Nat} {T : ByteArray} {o ob : Option Nat} {fs' : List (ByteArray × ByteArray)} {r ln cl : Int} {l : List St} {w w' : World} {rv : Value} (hr : (r == 0) = true) (hv : rowsSl ob (rowsF l).length = rv) (hR : RowsAt w' ob (rowsF l)) (hg : ∀ g, ob = some g → w.heap.size ≤ g) (hW : WorldAt w' b x T o) (hF : SomeAt w' x fs') (hK : Kept [x] w w') :
    CoreSays b x T o fs' r ln cl l w (.returned (seenV rv 0 ⟨#[]⟩ 0 0 0)) w' := by
  refine ⟨ob, ?_, fun _ => hR, hg, hW, hF, hK⟩
  rw [if_pos hr, hv]

end Go.Proofs.YtcipkfhpcbddiaaGreat

/- Package metaproofkeep: see, and the report that it leaves. -/
namespace Go.Proofs.YtcipkfhpcbddiaaGreat
open Go.RowKit
attribute [local go_sem] build_nofault

/-- And the report. -/
def RptFresh (w w' : World) (x : Nat) (fs' : List (ByteArray × ByteArray)) (l : List St) : Prop := ∃ H g, RptAt w' x fs' l H g ∧ w.heap.size ≤ g ∧ ∀ k, InH H k → w.heap.size ≤ k
def CoreSaysR (b x : Nat) (T : ByteArray) (o : Option Nat) (fs' : List (ByteArray × ByteArray)) (r ln cl : Int) (l : List St) (w : World) (e : Ending) (w' : World) : Prop :=
  CoreSays b x T o fs' r ln cl l w e w' ∧ ((r == 0) = true → RptFresh w w' x fs' l)

set_option maxHeartbeats 3000000 in
set_option maxRecDepth 100000 in
theorem see_coreR (b x : Nat) (T t : ByteArray) (o : Option Nat) (fs fs' : List (ByteArray × ByteArray)) (r ln cl : Int) (l : List St) (w : World) (hW : WorldAt w b x T o) (hV : SomeAt w x fs) (hx : x ≠ b) (ht : ¬ 1024 < t.size) (hp : putF fs ⟨#[109]⟩ t = (0, fs')) (hlen : l.length ≤ 10000)
    (VF : ∀ w', SomeAt w' x fs' → Calls Tryz.prog 15 #[.pointer (some ⟨x, 0, none⟩), .string ⟨#[109]⟩] w' fun e w'' =>
      (if (r == 0) = true then e = .returned (.tuple #[.agg #[.int .i64 0, .string ⟨#[]⟩, .int .i64 0, .int .i64 0], .int .i64 0]) ∧ ∃ H g, RptAt w'' x fs' l H g ∧ w'.heap.size ≤ g ∧ ∀ k, InH H k → w'.heap.size ≤ k
       else e = .returned (.tuple #[.agg #[.int .i64 r, .string ⟨#[109]⟩, .int .i64 ln, .int .i64 cl], .int .i64 6]) ∧ BareAt w'' x fs') ∧ Kept [x] w' w'') :
    Calls Tryz.prog 18 #[.pointer (some ⟨b, 0, none⟩), .string t] w fun e w' => CoreSaysR b x T o fs' r ln cl l w e w' := by
  have hbw := hW.lt
  have hxw := hV.lt
  obtain ⟨c0, c1, -⟩ := hW.cells
  obtain ⟨W, hWW⟩ : ∃ W, W = (w.alloc (.cells #[.slice none 0 0, .int .i64 0, .string ⟨#[]⟩, .int .i64 0, .int .i64 0, .int .i64 0] 52)).alloc (.cells #[.slice none 0 0, .int .i64 0, .string ⟨#[]⟩, .int .i64 0, .int .i64 0, .int .i64 0] 52) := ⟨_, rfl⟩
  have hKW0 : Kept [] w W := by rw [hWW]; exact ((Kept.refl _ _).alloc _).alloc _
  have s0 : W.heap[w.heap.size]? = some (.cells #[.slice none 0 0, .int .i64 0, .string ⟨#[]⟩, .int .i64 0, .int .i64 0, .int .i64 0] 52 (0, 0)) := by
    rw [hWW]; exact ((Kept.refl [] _).alloc _).get (heap_alloc_new _ _) (by simp)
  have s1 : W.heap[w.heap.size + 1]? = some (.cells #[.slice none 0 0, .int .i64 0, .string ⟨#[]⟩, .int .i64 0, .int .i64 0, .int .i64 0] 52 (0, 0)) := by
    rw [hWW]
    have e : (w.alloc (.cells #[.slice none 0 0, .int .i64 0, .string ⟨#[]⟩, .int .i64 0, .int .i64 0, .int .i64 0] 52)).heap.size = w.heap.size + 1 := by simp
    rw [← e]; exact heap_alloc_new _ _
  have HW := (show Hid _ from hWW.symm)
  have PF := vput_any x ⟨#[109]⟩ t fs W (hV.kept hKW0 (by simp)) (by simp [ByteArray.size]) (by omega)
  rw [hp] at PF
  have HPF := (show Hid _ from PF)
  have HVF := (show Hid _ from VF)
  clear PF hWW hp VF
  have hne1 : w.heap.size ≠ x := by omega
  have hne2 : w.heap.size + 1 ≠ x := by omega
  have hxx : x ∉ [w.heap.size, w.heap.size + 1] := by simp; omega
  have hbb : b ∉ [w.heap.size, w.heap.size + 1] := by simp; omega
  have hzz := hW.rows.lt
  have HGG : Hid (∀ g, o = some g → g ∉ [w.heap.size, w.heap.size + 1]) := fun g hg => by have := hzz g hg; simp; omega
  clear hzz
  have hsn := fun (wx : World) => Lib.run_eql_slice_nil (P := Tryz.prog) wx 44 59 none 0 0 0 0 Tryz.underlying44
  have HWk : Hid (WorldAt W b x T o) := hW.still hKW0
  clear hW
  go_enter Tryz.func18, Tryz.ntmps18
  go_wp2_with fail
  rw [HW.out]
  refine Calls.mono HPF.out ?_
  rintro e w2 ⟨rfl, -, hB2, hk2⟩
  have hB2 := hB2 trivial
  have s02 := hk2.get s0 (by simp; omega)
  have s12 := hk2.get s1 (by simp; omega)
  have HW2 : Hid (WorldAt w2 b x T o) := HWk.out.keptX hk2 hx
  have hkx2 : Kept [x] w w2 := (hKW0.mono (by simp)).trans hk2
  obtain ⟨y0, y1, y2, y3, y4, y5⟩ := seen_cells s02
  obtain ⟨z0, z1, z2, z3, z4, z5⟩ := seen_cells s12
  have f0 := free_of s02
  have f1 := free_of s12
  clear c0 c1
  obtain ⟨c0, c1, -⟩ := HW2.out.cells
  have hbw2 := HW2.out.lt
  have hs2 := hk2.size
  have hWs := lt_of_get s1
  have B2' : Hid (∀ v, BareAt (w2.setCell ⟨w.heap.size + 1, 5, none⟩ v) x fs') := fun v => hB2.kept (S := [w.heap.size, w.heap.size + 1]) ((Kept.refl _ _).setCell (Or.inl (by simp)) _) hxx
  go_wp2_with (go_at_call 30; refine (vrows_bare x fs' _ (by exact B2'.out _)).mono ?_; rintro e w9 ⟨rfl, rfl⟩)
  refine Calls.mono (HVF.out _ (by exact (B2'.out _).anyR)) ?_
  rintro e w3 ⟨hcase, hk3⟩
  have s03 := hk3.get ((Below.heap_setCell w2 ⟨w.heap.size + 1, 5, none⟩ (.int .i64 0) w.heap.size (by simp)).trans s02) (by simp; omega)
  have s13 : w3.heap[w.heap.size + 1]? = some (.cells #[.slice none 0 0, .int .i64 0, .string ⟨#[]⟩, .int .i64 0, .int .i64 0, .int .i64 0] 52 (0, 0)) := hk3.get ((block_setCell s12 5 (.int .i64 0)).trans (by simp)) (by simp; omega)
  have HW3 : Hid (WorldAt w3 b x T o) := (HW2.out.kept (S := [w.heap.size, w.heap.size + 1]) ((Kept.refl _ _).setCell (Or.inl (by simp)) _) hbb HGG.out).keptX hk3 hx
  have hkx : Kept [x] w w3 := (hkx2.setCell (Or.inr (by simp)) _).trans hk3
  have hz3 := lt_of_get s13
  have hz3' := lt_of_get s03
  have hb3 := HW3.out.lt
  clear y0 y1 y2 y3 y4 y5 z0 z1 z2 z3 z4 z5 f0 f1 c0 c1 s02 s12 s0 s1 hkx2 hk2 hk3 B2' hB2
  obtain ⟨y0, y1, y2, y3, y4, y5⟩ := seen_cells s03
  obtain ⟨z0, z1, z2, z3, z4, z5⟩ := seen_cells s13
  have f0 := free_of s03
  have f1 := free_of s13
  obtain ⟨c0, c1, -⟩ := HW3.out.cells
  cases hr : (r == 0)
  · simp only [hr, Bool.false_eq_true, if_false] at hcase
    obtain ⟨rfl, hB3⟩ := hcase
    have hr' : (r != 0) = true := by simp [bne, hr]
    have HB : Hid (∀ a0 a1 a2 a3 a4 ob, BareAt ((((((w3.setCell ⟨w.heap.size + 1, 1, none⟩ a0).setCell ⟨w.heap.size + 1, 2, none⟩ a1).setCell ⟨w.heap.size + 1, 3, none⟩ a2).setCell ⟨w.heap.size + 1, 4, none⟩ a3).setCell ⟨w.heap.size + 1, 5, none⟩ a4).alloc ob) x fs') := fun a0 a1 a2 a3 a4 ob => hB3.kept (five_kept (Kept.refl [w.heap.size, w.heap.size + 1] w3) (Or.inl (by simp)) _ _ _ _ _ _) hxx
    go_wp2_with (go_at_call 30; refine (vrows_bare x fs' _ (by exact HB.out _ _ _ _ _ _)).mono ?_; rintro e w9 ⟨rfl, rfl⟩)
    go_region
    all_goals go_wp2
    all_goals
      refine bodyPost_ret (v := seenV (.slice none 0 0) r ⟨#[109]⟩ ln cl 6) (by simp [results, Tryz.results18, go_sem, seenV, hz3', y0, y1, y2, y3, y4, y5]) rfl ?_
      refine ⟨core_bad hr ?_ ?_ ?_, fun h => by rw [hr] at h; cases h⟩
      · exact HW3.out.kept (S := [w.heap.size, w.heap.size + 1]) (twelve_kept (p := w.heap.size) (q := w.heap.size + 1) (Kept.refl _ _) (Or.inl (by simp)) (Or.inl (by simp)) _ _ _ _ _ _ _ _ _ _ _ _ _) hbb HGG.out
      · exact hB3.anyR.kept (S := [w.heap.size, w.heap.size + 1]) (twelve_kept (p := w.heap.size) (q := w.heap.size + 1) (Kept.refl _ _) (Or.inl (by simp)) (Or.inl (by simp)) _ _ _ _ _ _ _ _ _ _ _ _ _) hxx
      · exact twelve_kept (p := w.heap.size) (q := w.heap.size + 1) hkx (Or.inr (Nat.le_refl _)) (Or.inr (by omega)) _ _ _ _ _ _ _ _ _ _ _ _ _
  · simp only [hr, if_true] at hcase
    obtain ⟨rfl, H, g, hR3, hg3, hH3⟩ := hcase
    simp only [World.size_setCell] at hg3 hH3
    have hgn : g ∉ [w.heap.size, w.heap.size + 1] := by simp; omega
    have HHn : Hid (∀ k, InH H k → k ∉ [w.heap.size, w.heap.size + 1]) := fun k hk => by have := hH3 k hk; simp; omega
    have heq := fun (wx : World) => eqFault wx
    go_wp2_with fail
    refine (vrows_any x fs' l H g _ (by exact hR3.kept (five_kept (Kept.refl [w.heap.size, w.heap.size + 1] w3) (Or.inl (by simp)) _ _ _ _ _ _) hxx hgn HHn.out) hlen).mono ?_
    rintro e w9 ⟨ob, rfl, hO9, hf9, hk9⟩
    obtain ⟨ao, n9, cp9, hrs⟩ := rowsSl_is ob (rowsF l).length
    rw [hrs]
    have s19 := hk9.get (five_block s13 _ _ _ _ _ _) (by simp)
    have s09 := hk9.get ((five_kept (Kept.refl [w.heap.size + 1] w3) (Or.inl (by simp)) _ _ _ _ _ _).get s03 (by simp)) (by simp)
    have K9 : Kept [x] w w9 := (five_kept hkx (Or.inr (by omega)) _ _ _ _ _ _).trans (hk9.mono (by simp))
    have HW9 : Hid (WorldAt w9 b x T o) := (HW3.out.kept (five_kept (Kept.refl [w.heap.size, w.heap.size + 1] w3) (Or.inl (by simp)) _ _ _ _ _ _) hbb HGG.out).still hk9
    have HV9 : Hid (SomeAt w9 x fs') := (hR3.anyR.kept (five_kept (Kept.refl [w.heap.size, w.heap.size + 1] w3) (Or.inl (by simp)) _ _ _ _ _ _) hxx).kept hk9 (by simp)
    have HO9 : Hid (RowsAt w9 ob (rowsF l)) := hO9
    have HR9 : Hid (RptAt w9 x fs' l H g) := (hR3.kept (five_kept (Kept.refl [w.heap.size, w.heap.size + 1] w3) (Or.inl (by simp)) _ _ _ _ _ _) hxx hgn HHn.out).still hk9
    have HFR : Hid (w.heap.size ≤ g ∧ ∀ k, InH H k → w.heap.size ≤ k) := ⟨by omega, fun k hk => by have := hH3 k hk; omega⟩
    have HF9 : Hid (∀ g, ob = some g → w.heap.size + 2 ≤ g) := fun g hg => by have := hf9 g hg; simp at this; omega
    have HRS := (show Hid _ from hrs)
    clear y0 y1 y2 y3 y4 y5 z0 z1 z2 z3 z4 z5 f0 f1 c0 c1 s03 s13 hkx hk9 hO9 hf9 hrs hR3
    obtain ⟨y0, y1, y2, y3, y4, y5⟩ := seen_cells s09
    obtain ⟨z0, z1, z2, z3, z4, z5⟩ := seen_cells s19
    have f0 := free_of s09
    have f1 := free_of s19
    have hz9 := lt_of_get s19
    have hz9' := lt_of_get s09
    go_wp2_with fail
    go_region
    all_goals go_wp2
    all_goals
      refine bodyPost_ret (v := seenV (.slice ao n9 cp9) 0 ⟨#[]⟩ 0 0 0) (by simp [results, Tryz.results18, go_sem, seenV, y0, y1, y2, y3, y4, y5]) rfl ?_
      refine ⟨core_good hr (ob := ob) HRS.out ?_ (fun g hg => by have := HF9.out g hg; omega) ?_ ?_ ?_, fun _ => ⟨H, g, HR9.out.kept (S := [w.heap.size, w.heap.size + 1]) (seven_kept (p := w.heap.size) (q := w.heap.size + 1) (Kept.refl _ _) (Or.inl (by simp)) (Or.inl (by simp)) _ _ _ _ _ _ _) hxx hgn HHn.out, HFR.out⟩⟩
      · exact RowsAt.kept HO9.out (S := [w.heap.size, w.heap.size + 1]) (seven_kept (p := w.heap.size) (q := w.heap.size + 1) (Kept.refl _ _) (Or.inl (by simp)) (Or.inl (by simp)) _ _ _ _ _ _ _) (fun g hg => by have := HF9.out g hg; simp; omega)
      · exact HW9.out.kept (S := [w.heap.size, w.heap.size + 1]) (seven_kept (p := w.heap.size) (q := w.heap.size + 1) (Kept.refl _ _) (Or.inl (by simp)) (Or.inl (by simp)) _ _ _ _ _ _ _) hbb HGG.out
      · exact HV9.out.kept (S := [w.heap.size, w.heap.size + 1]) (seven_kept (p := w.heap.size) (q := w.heap.size + 1) (Kept.refl _ _) (Or.inl (by simp)) (Or.inl (by simp)) _ _ _ _ _ _ _) hxx
      · exact seven_kept (p := w.heap.size) (q := w.heap.size + 1) K9 (Or.inr (Nat.le_refl _)) (Or.inr (by omega)) _ _ _ _ _ _ _


end Go.Proofs.YtcipkfhpcbddiaaGreat

/- Package metaproofkeep: back, chunk, grown: with the report that they leave. -/
namespace Go.Proofs.YtcipkfhpcbddiaaGreat
open Go.RowKit
attribute [local go_sem] build_world

/-- The verifier has the report on this text; all of it lies from block n on. -/
def RepFor (w : World) (x n N : Nat) (t : ByteArray) : Prop := ∃ fs H g, RptAt w x fs (rdM t).2.sts H g ∧ n ≤ g ∧ (∀ k, InH H k → n ≤ k) ∧ MOk N fs
theorem RepFor.still {w w' : World} {x n N : Nat} {t : ByteArray} (h : RepFor w x n N t) (k : Kept [] w w') : RepFor w' x n N t := by
  obtain ⟨fs, H, g, h1, h2, h3, h4⟩ := h
  exact ⟨fs, H, g, h1.still k, h2, h3, h4⟩
theorem see_shortR {N : Nat} (hN : N ≤ 3) (b x : Nat) (T t : ByteArray) (o : Option Nat) (fs : List (ByteArray × ByteArray)) (w : World) (hW : WorldAt w b x T o) (hV : SomeAt w x fs) (hx : x ≠ b) (ht : ¬ 1024 < t.size) (hM : MOk N fs) (hni : holdsF t = false) :
    Calls Tryz.prog 18 #[.pointer (some ⟨b, 0, none⟩), .string t] w fun e w' => SeeSays N b x T t o w e w' ∧ (((rdM t).1.1 == 0) = true → RepFor w' x w.heap.size N t) := by
  obtain ⟨k, fs', hp, hk, hk4, hf, hnm, hdt, hM'⟩ := put_m hN fs t hM ht
  have HG := rdM_rec t (by omega) hni
  refine (see_coreR b x T t o fs fs' (rdM t).1.1 (lineAt t (rdM t).1.2) (colAt t (rdM t).1.2) (rdM t).2.sts w hW hV hx ht hp HG.ok.len (fun w' h' => verify_m x k fs' t w' h' hf hk hk4 hnm hdt hM'.2 hni)).mono ?_
  rintro e w' ⟨⟨o', he, hR, hg, hW', hV', hk'⟩, hrep⟩
  refine ⟨⟨o', ?_, hR, hg, hW', ⟨fs', hV', hM'⟩, hk'⟩, fun h => ?_⟩
  · rw [he]; rfl
  · obtain ⟨H, g, h1, h2, h3⟩ := hrep h
    exact ⟨fs', H, g, h1, h2, h3, hM'⟩

set_option maxHeartbeats 1000000 in
set_option maxRecDepth 100000 in
theorem back_anyR {N : Nat} (hN : N ≤ 3) (b x : Nat) (T : ByteArray) (o : Option Nat) (fs : List (ByteArray × ByteArray)) (w : World) (hW : WorldAt w b x T o) (hV : SomeAt w x fs) (hx : x ≠ b) (hM : MOk N fs) (hT : Fine T) :
    Calls Tryz.prog 21 #[.pointer (some ⟨b, 0, none⟩)] w fun e w' => BackSays N b x T o w e w' ∧ RepFor w' x w.heap.size N T := by
  obtain ⟨c0, c1, -⟩ := hW.cells
  have hbw := hW.lt
  have SF := see_shortR hN b x T T o fs w hW hV hx (by have := hT.size; omega) hM hT.inc
  unfold SeeSays at SF
  have HSF := (show Hid _ from SF)
  have hrr := hT.zero
  have hok := hT.rws
  clear SF
  go_enter Tryz.func21, Tryz.ntmps21
  go_wp2_with fail
  refine Calls.mono HSF.out ?_
  rintro e w2 ⟨⟨o', rfl, hR2, hg2, hW2, ⟨fs', hV2, hM2⟩, hk2⟩, hRep⟩
  have HRep : Hid (RepFor w2 x w.heap.size N T) := hRep hrr
  clear hRep
  have hR2 := hR2 hrr
  unfold seeV
  rw [if_pos hrr]
  have SR := fun (w' : World) (k : Kept [] w2 w') => sameRows_any o' o (rowsM T) w' (hR2.still k) (hW2.rows.still k) hok
  have hb2 := hW2.lt
  obtain ⟨d0, d1, d2⟩ := hW2.cells
  obtain ⟨ao1, n1, c1', hrs1⟩ := rowsSl_is o' (rowsM T).length
  obtain ⟨ao2, n2, c2', hrs2⟩ := rowsSl_is o (rowsM T).length
  rw [hrs1, hrs2] at SR
  rw [hrs2] at d2
  rw [hrs1]
  have HSR := (show Hid _ from SR)
  clear SR hrs1 hrs2 hok hR2 c0 c1
  simp only [seenV]
  go_upto_region 2 with fail
  obtain ⟨W3, hW3⟩ : ∃ W3, W3 = w2.alloc (.cells #[.slice ao1 n1 c1', .int .i64 0, .string ⟨#[]⟩, .int .i64 0, .int .i64 0, .int .i64 0] 52) := ⟨_, rfl⟩
  have k3 : Kept [] w2 W3 := by rw [hW3]; exact (Kept.refl [] _).alloc _
  have B3 : W3.heap[w2.heap.size]? = some (.cells #[.slice ao1 n1 c1', .int .i64 0, .string ⟨#[]⟩, .int .i64 0, .int .i64 0, .int .i64 0] 52 (0, 0)) := by rw [hW3]; exact heap_alloc_new _ _
  rw [← hW3]
  have s0 := (seen_cells B3).1
  have e2 : W3.cell? ⟨b, 2, none⟩ = some (.slice ao2 n2 c2') := by
    have := (hW2.still k3).cells.2.2
    rw [World.cell?_of_block (k3.block b hb2 (by simp))]; exact d2
  have hb3 : b < W3.heap.size := Nat.lt_of_lt_of_le hb2 k3.size
  clear hW3 d0 d1 d2
  go_region_with (go_at_call 20; refine (HSR.out _ (by exact k3.trans (Kept.refl [] W3).drew)).mono ?_; rintro e w4 ⟨rfl, k4⟩)
  all_goals
    have K4 : Kept [] w2 w4 := (k3.trans (Kept.refl [] W3).drew).trans k4
    have B4 := k4.get ((Kept.refl [] W3).drew.get B3 (by simp)) (by simp)
    obtain ⟨-, -, -, -, -, s5⟩ := seen_cells B4
    have HW4 := (show Hid _ from hW2.still K4)
    have hz4 := lt_of_get B4
    clear s0 e2 B3
    go_wp2
    go_ret
    exact ⟨⟨rfl, HW4.out, ⟨fs', hV2.kept K4 (by simp), hM2⟩, hk2.trans (K4.mono (by simp))⟩, RepFor.still HRep.out K4⟩

end Go.Proofs.YtcipkfhpcbddiaaGreat

/- Package metaproofkeep: outer. -/
namespace Go.Proofs.YtcipkfhpcbddiaaGreat
open Go.RowKit

def outLs (T z : ByteArray) : List ByteArray := hlL T ++ plL T ++ [lastO z]
/-- The form of outer, as far as given looks at it. -/
structure OutF (w : World) (n F g : Nat) (ao : Option Addr) (cap : Nat) (T z : ByteArray) : Prop where
  c1 : w.cell? ⟨F, 1, none⟩ = some (.slice (some ⟨g, 0, none⟩) (outLs T z).length (outLs T z).length)
  c2 : w.cell? ⟨F, 2, none⟩ = some (.slice ao (hlL T).length cap)
  ls : LnsAt w g (outLs T z) (outLs T z).length
  F : n ≤ F ∧ F < w.heap.size
  g : n ≤ g
  len : (outLs T z).length ≤ 200000000
def OutSays (b x : Nat) (T z : ByteArray) (o : Option Nat) (w : World) (e : Ending) (w' : World) : Prop :=
  (Kept [x] w w' ∧ WorldAt w' b x T o ∧ ∃ fs', SomeAt w' x fs' ∧ MOk 0 fs') ∧ (e = .returned (.tuple #[.pointer none, .bool true]) ∨ ∃ F g ao cap, e = .returned (.tuple #[.pointer (some ⟨F, 0, none⟩), .bool true]) ∧ OutF w' w.heap.size F g ao cap T z)

set_option maxHeartbeats 2000000 in
set_option maxRecDepth 100000 in
theorem outer_any (b x : Nat) (T z : ByteArray) (o : Option Nat) (fs : List (ByteArray × ByteArray)) (w : World) (hW : WorldAt w b x T o) (hV : SomeAt w x fs) (hM : MOk 0 fs) (hx : x ≠ b) (hT : Fine T) (hz : Zed T z) :
    Calls Tryz.prog 24 #[.pointer (some ⟨b, 0, none⟩), .string z] w fun e w' => OutSays b x T z o w e w' := by
  have hTs := hT.size
  have hbw := hW.lt
  obtain ⟨c0, c1, -⟩ := hW.cells
  have hzs := hz.size
  have HU := (show Hid _ from outer_text T z)
  obtain ⟨hinc, hzero, n, hF, hhl⟩ := outer_all hT hz
  have HF := (show Hid _ from hF)
  have HH := (show Hid _ from hhl)
  have hsz : (outU T z).size = T.size + 3 * z.size + 18 := by
    unfold outU
    rw [← HU.out]
    simp only [ByteArray.size_append]
    rw [show (⟨#[10, 36, 99, 32]⟩ : ByteArray).size = 4 from rfl, show (⟨#[113, 32, 36, 46, 32]⟩ : ByteArray).size = 5 from rfl, show (⟨#[97, 32, 36, 97, 32]⟩ : ByteArray).size = 5 from rfl, show (⟨#[113, 32, 36, 46]⟩ : ByteArray).size = 4 from rfl]
    omega
  have HS := (show Hid _ from hsz)
  have HUO : Hid (T ++ joinB ((10, kw 99) :: outL z) = outU T z) := rfl
  have HZ : Hid (z ++ ⟨#[97]⟩ = nm z [97]) := rfl
  have HHZ := (show Hid _ from hzero)
  clear hF hhl hsz hzero
  go_enter Tryz.func24, Tryz.ntmps24
  go_wp2_with fail
  rw [HU.out, HUO.out]
  by_cases hl : 1024 < (outU T z).size
  · refine (see_long b x T (outU T z) o fs w hW hV hx hl (by have := HS.out; omega)).mono ?_
    rintro e w2 ⟨rfl, hW2, hV2, hk2⟩
    simp only [seenV]
    go_wp2
    go_ret2
    have k := (Kept.refl [] w2).alloc (.cells #[.slice none 0 0, .int .i64 0, .string ⟨#[]⟩, .int .i64 0, .int .i64 0, .int .i64 3] 52)
    exact ⟨⟨hk2.trans (k.mono (by simp)), hW2.still k, fs, hV2.kept k (by simp), hM⟩, Or.inl rfl⟩
  · refine (see_shortR (N := 0) (by omega) b x T (outU T z) o fs w hW hV hx hl hM hinc).mono ?_
    rintro e w2 ⟨⟨o', rfl, -, -, hW2, ⟨fs2, hV2, hM2⟩, hk2⟩, hRep⟩
    have hr : ((rdM (outU T z)).1.1 == 0) = true := by rw [HHZ.out]; rfl
    obtain ⟨fs3, H, gg, hR, -, -, hM3⟩ := hRep hr
    unfold seeV
    rw [if_pos hr]
    obtain ⟨ao1, n1, c1', hrs1⟩ := rowsSl_is o' (rowsM (outU T z)).length
    rw [hrs1]
    simp only [seenV]
    have ok := (rdM_rec (outU T z) (by omega) hinc).ok
    have hszs := (rdM_nmS (outU T z) (by omega)).szs
    have hnm := rdM_nmS (outU T z) (by omega)
    obtain ⟨hn, ha, hlab⟩ := findA_lt HF.out.find
    have fr := FrOk.of hnm ok n hn ha
    obtain ⟨fi1, fi2⟩ := form_is fr
    have hgo : Hid (0 < (formF (linesF (rdM (outU T z)).2.sts n)).goal.length) := by
      have hso := hnm.sts _ (List.getElem_mem hn)
      have hk : 2 ≤ (rdM (outU T z)).2.sts[n].kind ∧ (rdM (outU T z)).2.sts[n].kind ≤ 5 := hso.kind.resolve_left (by intro e; rw [e] at ha; revert ha; decide)
      obtain ⟨c, rr, hc, -⟩ := hso.code hk
      show 0 < _
      rw [fi2, hc]; simp
    have hlo := fun k hk => lines_ok fr (nm z [97]) hlab k hk
    have hhy : Hid ((formF (linesF (rdM (outU T z)).2.sts n)).hyps.length = (hlL T).length) := by show _ = _; rw [fi1, List.length_map, HH.out]
    have hLe := lines_len (rdM (outU T z)).2.sts n
    have hh2 := hyps_len (rdM (outU T z)).2.sts n
    have hll := ok.len
    have hpl : (pairsF (rdM (outU T z)).2.sts n).length ≤ 100000000 := prs_len _ _ (by have := fvars_len (rdM (outU T z)).2.sts (hypsF (rdM (outU T z)).2.sts n); omega)
    have hLb : (linesF (rdM (outU T z)).2.sts n).length ≤ 200000000 := by omega
    have hLp : 0 < (linesF (rdM (outU T z)).2.sts n).length := by omega
    have HVF : Hid (∀ w', Kept [] w2 w' → Calls Tryz.prog 28 #[.pointer (some ⟨x, 0, none⟩), .string (nm z [97])] w' fun e w'' => ∃ g, e = .returned (.tuple #[.slice (some ⟨g, 0, none⟩) (linesF (rdM (outU T z)).2.sts n).length (linesF (rdM (outU T z)).2.sts n).length, .int .i64 0]) ∧ LnsAt w'' g (linesF (rdM (outU T z)).2.sts n) (linesF (rdM (outU T z)).2.sts n).length ∧ w'.heap.size ≤ g ∧ Kept [] w' w'') := fun w' q => by
      refine (vframe_any x fs3 _ H gg (nm z [97]) w' (hR.still q) ok hszs).mono ?_
      rintro e w'' ⟨k1, h2⟩
      rw [HF.out.find] at h2
      obtain ⟨g', h3, h4, h5⟩ := h2
      exact ⟨g', h3, h4, h5, k1⟩
    have HLN := (show Hid _ from HF.out.lines)
    have HLN : Hid (linesF (rdM (outU T z)).2.sts n = outLs T z) := HLN.out
    rw [HLN.out] at HVF hLb hLp hhy hgo
    have hlo : Hid (∀ k (h : k < (outLs T z).length), LineOk (nm z [97]) (decide (k + 1 = (outLs T z).length)) (outLs T z)[k]) := by
      have := HLN.out
      show ∀ k (h : k < (outLs T z).length), _
      rw [← this]
      exact hlo
    clear hpl hh2 hLe hll fi1 fi2 c0 c1
    have k3 : Kept [] w2 (w2.alloc (.cells #[.slice ao1 n1 c1', .int .i64 0, .string ⟨#[]⟩, .int .i64 0, .int .i64 0, .int .i64 0] 52)) := (Kept.refl [] _).alloc _
    have hW3 := hW2.still k3
    obtain ⟨c0, c1, -⟩ := hW3.cells
    have HFO := (show Hid _ from form_core b x (nm z [97]) (outLs T z) _ c0 hW3.lt hLp hLb (fun w' q => HVF.out w' (k3.trans q)) hlo hgo)
    have hb2 := hW2.lt
    clear c0 c1 HVF
    go_wp2_with fail
    rw [HZ.out]
    refine Calls.mono HFO.out ?_
    rintro e w4 ⟨F, gl, es, hgd, Hf, rfl, hFm, hln, ⟨hg1, -, -⟩, k4⟩
    go_wp2
    go_ret2
    have k24 := k3.trans k4
    have f1 := hFm.bag.cell 1
    have f2 := hFm.bag.cell 2
    simp only [fmL, List.getElem?_cons_succ, List.getElem?_cons_zero] at f1 f2
    rw [hhy.out] at f2
    have hs2 := hk2.size
    have hs3 := k3.size
    exact ⟨⟨hk2.trans (k24.mono (by simp)), hW2.still k24, fs2, hV2.kept k24 (by simp), hM2⟩, Or.inr ⟨F, gl, _, _, rfl, ⟨f1, f2, hln, ⟨by have := hFm.new.1; omega, hFm.bag.lt⟩, by omega, hLb⟩⟩⟩

end Go.Proofs.YtcipkfhpcbddiaaGreat

/- Appending a slice that may be empty; what given keeps. -/
namespace Go.Proofs.YtcipkfhpcbddiaaGreat
open Go.RowKit

theorem run_append_any {P : Program} (w : World) (t ty : TypeId) (i : TypeInfo) (z : Value) (bytes : Nat) (h : Hd) (r : Row) (h1 : P.underlying t = some (.slice r.e)) (h2 : P.info? r.e = some i) (h3 : i.zero = some z) (h4 : i.size = r.size) (h5 : i.bytes = bytes) (h6 : z.cells.size = r.size) (h7 : 0 < r.size)
    (hown : Owns w h r) (ad : Addr) (m c : Nat) (news : List Value) (hn : news.length = m * r.size) (hc : ∀ j u, news[j]? = some u → w.cell? (ad.add j) = some u) (h1c : ∀ u ∈ news, u.oneCell' = true)
    (b1 : r.n + m ≤ maxLen) (b2 : (r.n + m) * bytes ≤ 140737488355328) :
    ∃ hd' w', (Builtin.append_ #[t, t] ty #[.slice h.ao r.n h.cap, .slice (some ad) m c]).run P w = .ok (.slice hd'.ao (r.n + m) hd'.cap) w' ∧
      Owns w' hd' ⟨r.e, r.size, r.n + m, r.xs ++ news⟩ ∧ w.grownBy w' h.blk ∧ (hd'.blk = h.blk ∨ ∃ g, hd'.blk = some g ∧ w.heap.size ≤ g) := by
  by_cases hm : 0 < m
  · obtain ⟨g, cap', w', q1, q2, q3, q4⟩ := run_append_row w t ty i z bytes h r h1 h2 h3 h4 h5 h6 h7 hown ad m c news hn hc h1c hm b1 b2
    refine ⟨⟨some ⟨g, 0, none⟩, cap'⟩, w', q1, q2, q3, ?_⟩
    rcases q4 with q | q
    · exact Or.inl q.symm
    · exact Or.inr ⟨g, rfl, q⟩
  · have e : m = 0 := by omega
    subst e
    have hnn : news = [] := List.eq_nil_of_length_eq_zero (by simpa using hn)
    subst hnn
    rcases hown.ways with ⟨e1, e2, e3⟩ | ⟨g, cur, e1, e2, e3, e4, e5, e6⟩
    · refine ⟨h, w, ?_, ?_, ⟨rfl, rfl, rfl, Nat.le_refl _, fun _ _ _ => rfl⟩, Or.inl rfl⟩
      · rw [e1, e2]
        simp [Builtin.append_, run_underlying h1, sizeOf, typeInfo, h2, Builtin.lenOf, Builtin.firstCells, loadCells, loadCellsFrom]
      · rw [List.append_nil, Nat.add_zero]; exact hown
    · obtain ⟨w', hrun, hw, hgr⟩ := run_append_fits (P := P) w 0 t ty r.e i r.size h1 h2 h4 g r.n h.cap r.xs (by have := hown; unfold Owns at this; rw [e1] at this; exact this) ad 0 c [] hn hc h1c (by omega)
      refine ⟨⟨some ⟨g, 0, none⟩, h.cap⟩, w', by rw [e1, hrun], hw, by unfold Hd.blk; rw [e1]; exact hgr, Or.inl (by unfold Hd.blk; rw [e1])⟩
theorem step_append_any {P : Program} {ops : Array Oper} {o : Oper} {a : Act} {w : World} {K : Act → World → Prop} {Q : Exit → Act → World → Prop} {E : Prop}
    (hg : o.guard = none) (s x : Operand) (t : TypeId) (hop : o.op = Op.call { callee := Callee.builtin Builtin.append, args := #[s, x], argTypes := #[t, t] })
    (i : TypeInfo) (z : Value) (bytes : Nat) (h : Hd) (r : Row) (h1 : P.underlying t = some (.slice r.e)) (h2 : P.info? r.e = some i) (h3 : i.zero = some z) (h4 : i.size = r.size) (h5 : i.bytes = bytes) (h6 : z.cells.size = r.size) (h7 : 0 < r.size)
    (hs : a.eval s = .slice h.ao r.n h.cap) (hown : Owns w h r)
    (ad : Addr) (m c : Nat) (news : List Value) (hx : a.eval x = .slice (some ad) m c) (hn : news.length = m * r.size) (hc : ∀ j u, news[j]? = some u → w.cell? (ad.add j) = some u) (h1c : ∀ u ∈ news, u.oneCell' = true)
    (b1 : r.n + m ≤ maxLen) (b2 : (r.n + m) * bytes ≤ 140737488355328)
    (hK : ∀ ao' cap' w', Owns w' ⟨ao', cap'⟩ ⟨r.e, r.size, r.n + m, r.xs ++ news⟩ → w.grownBy w' h.blk → ((⟨ao', cap'⟩ : Hd).blk = h.blk ∨ ∃ g, (⟨ao', cap'⟩ : Hd).blk = some g ∧ w.heap.size ≤ g) → K (a.put o.dst (.slice ao' (r.n + m) cap')) w') :
    if Region.wanted o (yielded ops a.tmps) = true then Oper.wp P o a w K Q else E := by
  have hw : Region.wanted o (yielded ops a.tmps) = true := by simp [Region.wanted, hg]
  rw [if_pos hw]
  obtain ⟨hd', w', hrun, r1, r2, r3⟩ := run_append_any (P := P) w t o.type i z bytes h r h1 h2 h3 h4 h5 h6 h7 hown ad m c news hn hc h1c b1 b2
  unfold Oper.wp
  simp [execOp, hop, resolve, invoke, builtin, hs, hx, hrun, Result.andThen]
  exact hK hd'.ao hd'.cap w' r1 r2 r3

theorem kept_grown {w w' : World} {h : Hd} (g : w.grownBy w' h.blk) {S : List Nat} (hS : ∀ k, h.blk = some k → k ∈ S) : Kept S w w' := by
  exact ⟨g.os, g.tape, g.output, g.size, fun k hk hn => g.block k hk (fun e => hn (hS k e.symm))⟩

/-- What given keeps while it writes its text. n: all that was there ahead of the lists. -/
structure GvS (w0 w : World) (n b x F g : Nat) (ao : Option Addr) (cap : Nat) (T z : ByteArray) (o : Option Nat) (hw : Hd) (Lw : List ByteArray) (hv : Hd) (Lv : List ByteArray) : Prop where
  W : WorldAt w b x T o
  V : ∃ fs, SomeAt w x fs ∧ MOk 0 fs
  O : OutF w w0.heap.size F g ao cap T z
  want : Owns w hw (rowS Lw)
  vars : Owns w hv (rowS Lv)
  farW : ∀ k, hw.blk = some k → n ≤ k
  farV : ∀ k, hv.blk = some k → n ≤ k
  apart : ∀ k, hw.blk = some k → hv.blk ≠ some k
  low : b < n ∧ x < n ∧ F < n ∧ g < n ∧ (∀ q, o = some q → q < n) ∧ n ≤ w.heap.size
  kept : Kept [x] w0 w ∧ w0.heap.size ≤ n

theorem OutF.kept {w w' : World} {n F g : Nat} {ao : Option Addr} {cap : Nat} {T z : ByteArray} {S : List Nat} (h : OutF w n F g ao cap T z) (k : Kept S w w') (hF : F ∉ S) (hg : g ∉ S) : OutF w' n F g ao cap T z :=
  ⟨by rw [World.cell?_of_block (k.block F h.F.2 hF)]; exact h.c1, by rw [World.cell?_of_block (k.block F h.F.2 hF)]; exact h.c2, h.ls.kept k hg, ⟨h.F.1, Nat.lt_of_lt_of_le h.F.2 k.size⟩, h.g, h.len⟩
section
variable {w0 w w' : World} {n b x F g : Nat} {ao : Option Addr} {cap : Nat} {T z : ByteArray} {o : Option Nat} {hw hv : Hd} {Lw Lv : List ByteArray}
theorem GvS.still (h : GvS w0 w n b x F g ao cap T z o hw Lw hv Lv) (k : Kept [] w w') : GvS w0 w' n b x F g ao cap T z o hw Lw hv Lv := by
  obtain ⟨fs, v1, v2⟩ := h.V
  obtain ⟨l1, l2, l3, l4, l5, l6⟩ := h.low
  exact ⟨h.W.still k, ⟨fs, v1.kept k (by simp), v2⟩, h.O.kept k (by simp) (by simp), h.want.moved (fun q hq => k.block q (h.want.lt hq) (by simp)), h.vars.moved (fun q hq => k.block q (h.vars.lt hq) (by simp)), h.farW, h.farV, h.apart, ⟨l1, l2, l3, l4, l5, Nat.le_trans l6 k.size⟩, h.kept.1.trans (k.mono (by simp)), h.kept.2⟩
theorem kept_low {S : List Nat} (h : Kept S w w') {m : Nat} (hS : ∀ q ∈ S, m ≤ q) {R : List Nat} (h0 : Kept R w0 w) (hm : w0.heap.size ≤ m) : Kept R w0 w' :=
  ⟨h.os.trans h0.os, h.tape.trans h0.tape, h.output.trans h0.output, Nat.le_trans h0.size h.size, fun k hk hn => by
    rw [h.block k (Nat.lt_of_lt_of_le hk h0.size) (fun hq => by have := hS k hq; omega), h0.block k hk hn]⟩
/-- One list grew. -/
theorem GvS.grew (h : GvS w0 w n b x F g ao cap T z o hw Lw hv Lv) {hd : Hd} (hf : ∀ k, hd.blk = some k → n ≤ k) (gr : w.grownBy w' hd.blk) :
    WorldAt w' b x T o ∧ (∃ fs, SomeAt w' x fs ∧ MOk 0 fs) ∧ OutF w' w0.heap.size F g ao cap T z ∧ (b < n ∧ x < n ∧ F < n ∧ g < n ∧ (∀ q, o = some q → q < n) ∧ n ≤ w'.heap.size) ∧ Kept [x] w0 w' := by
  obtain ⟨fs, v1, v2⟩ := h.V
  obtain ⟨l1, l2, l3, l4, l5, l6⟩ := h.low
  obtain ⟨S, hS⟩ : ∃ S : List Nat, S = hd.blk.toList := ⟨_, rfl⟩
  have hm : ∀ q ∈ S, n ≤ q := fun q hq => by rw [hS] at hq; exact hf q (by cases e : hd.blk with | none => rw [e] at hq; simp at hq | some y => rw [e] at hq; simp at hq; rw [hq])
  have k : Kept S w w' := kept_grown gr (fun k hk => by rw [hS, hk]; simp)
  have no : ∀ y, y < n → y ∉ S := fun y hy hq => by have := hm y hq; omega
  exact ⟨h.W.kept k (no b l1) (fun q hq => no q (l5 q hq)), ⟨fs, v1.kept k (no x l2), v2⟩, h.O.kept k (no F l3) (no g l4), ⟨l1, l2, l3, l4, l5, Nat.le_trans l6 k.size⟩, kept_low k hm h.kept.1 h.kept.2⟩
theorem GvS.addW (h : GvS w0 w n b x F g ao cap T z o hw Lw hv Lv) {hd : Hd} {L : List ByteArray} (gr : w.grownBy w' hw.blk) (ho : Owns w' hd (rowS L)) (hb : hd.blk = hw.blk ∨ ∃ q, hd.blk = some q ∧ w.heap.size ≤ q) : GvS w0 w' n b x F g ao cap T z o hd L hv Lv := by
  obtain ⟨a1, a2, a3, a4, a5⟩ := h.grew h.farW gr
  have l6 := h.low.2.2.2.2.2
  refine ⟨a1, a2, a3, ho, h.vars.moved (fun q hq => gr.block q (h.vars.lt hq) (fun e => h.apart q e.symm hq)), ?_, h.farV, ?_, a4, a5, h.kept.2⟩
  · intro k hk
    rcases hb with e | ⟨q, e, hq⟩
    · exact h.farW k (by rw [← e]; exact hk)
    · rw [e] at hk; cases hk; omega
  · intro k hk hv'
    rcases hb with e | ⟨q, e, hq⟩
    · exact h.apart k (by rw [← e]; exact hk) hv'
    · rw [e] at hk; cases hk
      have := h.vars.lt hv'
      omega
theorem GvS.addV (h : GvS w0 w n b x F g ao cap T z o hw Lw hv Lv) {hd : Hd} {L : List ByteArray} (gr : w.grownBy w' hv.blk) (ho : Owns w' hd (rowS L)) (hb : hd.blk = hv.blk ∨ ∃ q, hd.blk = some q ∧ w.heap.size ≤ q) : GvS w0 w' n b x F g ao cap T z o hw Lw hd L := by
  obtain ⟨a1, a2, a3, a4, a5⟩ := h.grew h.farV gr
  have l6 := h.low.2.2.2.2.2
  refine ⟨a1, a2, a3, h.want.moved (fun q hq => gr.block q (h.want.lt hq) (fun e => h.apart q hq e.symm)), ho, h.farW, ?_, ?_, a4, a5, h.kept.2⟩
  · intro k hk
    rcases hb with e | ⟨q, e, hq⟩
    · exact h.farV k (by rw [← e]; exact hk)
    · rw [e] at hk; cases hk; omega
  · intro k hw' hk
    rcases hb with e | ⟨q, e, hq⟩
    · exact h.apart k hw' (by rw [← e]; exact hk)
    · rw [e] at hk; cases hk
      have := h.want.lt hw'
      omega
end

end Go.Proofs.YtcipkfhpcbddiaaGreat

/- What given writes, as its code puts it together, is the text that is read. No walk. -/
namespace Go.Proofs.YtcipkfhpcbddiaaGreat
open Go.RowKit

/-- What the first loop of given writes. -/
def vN (z : ByteArray) (k : Nat) : ByteArray := z ++ digF k
def lN (z : ByteArray) (k : Nat) : ByteArray := z ++ ⟨#[102]⟩ ++ digF k ++ ⟨#[32, 36, 102, 32]⟩ ++ z ++ ⟨#[99, 32]⟩ ++ vN z k
def gTx (T z : ByteArray) : Nat → ByteArray
  | 0 => T ++ ⟨#[10, 36, 99, 32]⟩ ++ z ++ ⟨#[99, 32, 36, 46, 10, 36, 123, 32, 36, 118]⟩
  | k + 1 => gTx T z k ++ ⟨#[32]⟩ ++ vN z k
def gEs (z : ByteArray) (eB : Nat → Bool) : Nat → ByteArray
  | 0 => z ++ ⟨#[101, 32, 36, 101, 32]⟩ ++ z ++ ⟨#[99]⟩
  | k + 1 => if eB k = true then gEs z eB k ++ ⟨#[32]⟩ ++ vN z k else gEs z eB k
def gGo (z : ByteArray) (gB : Nat → Bool) : Nat → ByteArray
  | 0 => ⟨#[32, 36, 97, 32]⟩ ++ z ++ ⟨#[99]⟩
  | k + 1 => if gB k = true then gGo z gB k ++ ⟨#[32]⟩ ++ vN z k else gGo z gB k
def gTy (z : ByteArray) (hE : Bool) (eB : Nat → Bool) : Nat → ByteArray
  | 0 => ⟨#[]⟩
  | k + 1 => if ((k == 1) && hE) = true then gTy z hE eB k ++ ⟨#[32]⟩ ++ lN z k ++ ⟨#[32, 36, 46]⟩ ++ ⟨#[32]⟩ ++ gEs z eB (k + 1) ++ ⟨#[32, 36, 46]⟩ else gTy z hE eB k ++ ⟨#[32]⟩ ++ lN z k ++ ⟨#[32, 36, 46]⟩
def gWa (z : ByteArray) (hE : Bool) (eB gB : Nat → Bool) : Nat → List ByteArray
  | 0 => []
  | k + 1 => gWa z hE eB gB k ++ ifL (eB k || gB k) [lN z k] ++ ifL ((k == 1) && hE) [gEs z eB (k + 1)]
def gVa (z : ByteArray) (eB gB : Nat → Bool) : Nat → List ByteArray
  | 0 => []
  | k + 1 => gVa z eB gB k ++ ifL (eB k || gB k) [vN z k]
/-- One pair more. -/
def gD1 (z t : ByteArray) (i j : Nat) (d : Bool) : ByteArray := if d = true then t ++ ⟨#[32, 36, 100, 32]⟩ ++ vN z j ++ ⟨#[32]⟩ ++ vN z i ++ ⟨#[32, 36, 46]⟩ else t
def gFu (z t : ByteArray) (f : Bool) : ByteArray := if f = true then t ++ ⟨#[32, 36, 100, 32]⟩ ++ z ++ ⟨#[50, 32]⟩ ++ z ++ ⟨#[48, 32]⟩ ++ z ++ ⟨#[49, 32, 36, 46]⟩ else t
/-- The whole. -/
def gFin (T z : ByteArray) (hE : Bool) (eB gB dB : Nat → Bool) (full : Bool) : ByteArray :=
  gD1 z (gD1 z (gD1 z (gFu z (gTx T z 3 ++ ⟨#[32, 36, 46]⟩ ++ gTy z hE eB 3) full) 0 1 (dB 0)) 0 2 (dB 1)) 1 2 (dB 2) ++ ⟨#[32]⟩ ++ z ++ ⟨#[98]⟩ ++ gGo z gB 3 ++ ⟨#[32, 36, 46, 32, 36, 125, 10]⟩ ++ z ++ ⟨#[97, 32, 36, 97, 32]⟩ ++ z ++ ⟨#[99, 32, 36, 46]⟩
def gpOf (hE : Bool) (eB gB dB : Nat → Bool) : Gp := ⟨hE, eB 0, eB 1, gB 0, gB 1, gB 2, dB 0, dB 1, dB 2⟩

def byt (x : ByteArray) : List UInt8 := x.data.toList
theorem byt_inj {x y : ByteArray} (h : byt x = byt y) : x = y := ByteArray.ext (Array.toList_inj.1 h)
theorem byt_app (x y : ByteArray) : byt (x ++ y) = byt x ++ byt y := by unfold byt; simp [ByteArray.data_append]
theorem byt_lit (l : List UInt8) : byt ⟨l.toArray⟩ = l := by unfold byt; simp
theorem byt_if (b : Bool) (t u : ByteArray) (m : List UInt8) (h : byt u = byt t ++ m) : byt (if b = true then u else t) = byt t ++ ifL b m := by
  cases b
  · simp [ifL]
  · simpa [ifL] using h
theorem byt_dig : byt (digF 0) = [48] ∧ byt (digF 1) = [49] ∧ byt (digF 2) = [50] := by decide +kernel
theorem byt_v (z : ByteArray) : byt (vN z 0) = byt z ++ [48] ∧ byt (vN z 1) = byt z ++ [49] ∧ byt (vN z 2) = byt z ++ [50] := by
  obtain ⟨d0, d1, d2⟩ := byt_dig
  exact ⟨by unfold vN; rw [byt_app, d0], by unfold vN; rw [byt_app, d1], by unfold vN; rw [byt_app, d2]⟩
theorem byt_nm (z : ByteArray) (a : List UInt8) : byt (nm z a) = byt z ++ a := by unfold nm sfx; rw [byt_app, byt_lit a]
theorem byt_kw (c : UInt8) : byt (kw c) = [36, c] := rfl
theorem byt_es (z : ByteArray) (eB : Nat → Bool) (k : Nat) : byt (gEs z eB (k + 1)) = byt (gEs z eB k) ++ ifL (eB k) (32 :: byt (vN z k)) := by
  rw [gEs]
  refine byt_if _ _ _ _ ?_
  rw [byt_app, byt_app]; simp [byt]
theorem byt_go (z : ByteArray) (gB : Nat → Bool) (k : Nat) : byt (gGo z gB (k + 1)) = byt (gGo z gB k) ++ ifL (gB k) (32 :: byt (vN z k)) := by
  rw [gGo]
  refine byt_if _ _ _ _ ?_
  rw [byt_app, byt_app]; simp [byt]
theorem byt_d1 (z t : ByteArray) (i j : Nat) (d : Bool) : byt (gD1 z t i j d) = byt t ++ ifL d ([32, 36, 100, 32] ++ byt (vN z j) ++ [32] ++ byt (vN z i) ++ [32, 36, 46]) := by
  unfold gD1
  refine byt_if _ _ _ _ ?_
  simp only [byt_app]; simp [byt]
theorem byt_fu (z t : ByteArray) (f : Bool) : byt (gFu z t f) = byt t ++ ifL f ([32, 36, 100, 32] ++ byt z ++ [50, 32] ++ byt z ++ [48, 32] ++ byt z ++ [49, 32, 36, 46]) := by
  unfold gFu
  refine byt_if _ _ _ _ ?_
  simp only [byt_app]; simp [byt]
theorem byt_ty (z : ByteArray) (hE : Bool) (eB : Nat → Bool) (k : Nat) : byt (gTy z hE eB (k + 1)) = byt (gTy z hE eB k) ++ (32 :: byt (lN z k) ++ [32, 36, 46]) ++ ifL ((k == 1) && hE) (32 :: byt (gEs z eB (k + 1)) ++ [32, 36, 46]) := by
  rw [gTy]
  have e : byt (gTy z hE eB k ++ ⟨#[32]⟩ ++ lN z k ++ ⟨#[32, 36, 46]⟩) = byt (gTy z hE eB k) ++ (32 :: byt (lN z k) ++ [32, 36, 46]) := by
    simp only [byt_app]; simp [byt]
  rw [← e]
  refine byt_if _ _ _ _ ?_
  simp only [byt_app]; simp [byt]
theorem byt_join (L : List (UInt8 × ByteArray)) : byt (joinB L) = L.flatMap (fun y => y.1 :: byt y.2) := by
  induction L with
  | nil => rfl
  | cons y L ih =>
    rw [joinB, List.flatMap_cons, ← ih]
    simp only [byt_app]; simp [byt]
theorem flat_ifL {α β : Type} (b : Bool) (l : List α) (f : α → List β) : (ifL b l).flatMap f = ifL b (l.flatMap f) := by cases b <;> rfl
theorem byt_ln (z : ByteArray) (k : Nat) : byt (lN z k) = byt z ++ [102] ++ byt (digF k) ++ [32, 36, 102, 32] ++ byt z ++ [99, 32] ++ byt (vN z k) := by
  unfold lN
  simp only [byt_app]; rfl
theorem fin_is (T z : ByteArray) (hE : Bool) (eB gB dB : Nat → Bool) : gFin T z hE eB gB dB (gpOf hE eB gB dB).full = gvU T z (gpOf hE eB gB dB) := by
  apply byt_inj
  obtain ⟨d0, d1, d2⟩ := byt_dig
  obtain ⟨v0, v1, v2⟩ := byt_v z
  have l2 : byt ⟨#[32]⟩ = [32] := rfl
  have l7 : byt ⟨#[32, 36, 46]⟩ = [32, 36, 46] := rfl
  have l8 : byt ⟨#[98]⟩ = [98] := rfl
  have l9 : byt ⟨#[32, 36, 46, 32, 36, 125, 10]⟩ = [32, 36, 46, 32, 36, 125, 10] := rfl
  have l10 : byt ⟨#[97, 32, 36, 97, 32]⟩ = [97, 32, 36, 97, 32] := rfl
  have l11 : byt ⟨#[99, 32, 36, 46]⟩ = [99, 32, 36, 46] := rfl
  have b0 : ((0 : Nat) == 1) = false := rfl
  have b1 : ((1 : Nat) == 1) = true := rfl
  have b2 : ((2 : Nat) == 1) = false := rfl
  have i0 : ∀ l : List UInt8, ifL false l = [] := fun _ => rfl
  have x0 : byt (gTx T z 3) = byt T ++ [10, 36, 99, 32] ++ byt z ++ [99, 32, 36, 46, 10, 36, 123, 32, 36, 118] ++ [32] ++ byt (vN z 0) ++ [32] ++ byt (vN z 1) ++ [32] ++ byt (vN z 2) := by
    simp only [gTx, byt_app]; rfl
  have x1 : byt (gEs z eB 0) = byt z ++ [101, 32, 36, 101, 32] ++ byt z ++ [99] := by simp only [gEs, byt_app]; rfl
  have x2 : byt (gGo z gB 0) = [32, 36, 97, 32] ++ byt z ++ [99] := by simp only [gGo, byt_app]; rfl
  have x3 : byt (gTy z hE eB 0) = [] := rfl
  have y1 : byt (gTy z hE eB 3) = byt (gTy z hE eB 0) ++ (32 :: byt (lN z 0) ++ [32, 36, 46]) ++ (32 :: byt (lN z 1) ++ [32, 36, 46]) ++ ifL hE (32 :: byt (gEs z eB 2) ++ [32, 36, 46]) ++ (32 :: byt (lN z 2) ++ [32, 36, 46]) := by
    rw [byt_ty z hE eB 2, byt_ty z hE eB 1, byt_ty z hE eB 0, b0, b1, b2, Bool.false_and, Bool.true_and, i0, i0, List.append_nil, List.append_nil]
  have y2 : byt (gEs z eB 2) = byt (gEs z eB 0) ++ ifL (eB 0) (32 :: byt (vN z 0)) ++ ifL (eB 1) (32 :: byt (vN z 1)) := by rw [byt_es z eB 1, byt_es z eB 0]
  have y3 : byt (gGo z gB 3) = byt (gGo z gB 0) ++ ifL (gB 0) (32 :: byt (vN z 0)) ++ ifL (gB 1) (32 :: byt (vN z 1)) ++ ifL (gB 2) (32 :: byt (vN z 2)) := by rw [byt_go z gB 2, byt_go z gB 1, byt_go z gB 0]
  unfold gFin gvU gvW
  simp only [byt_app, byt_d1, byt_fu, x0, y1, y2, y3, x1, x2, x3, byt_ln, d0, d1, d2, v0, v1, v2, l2, l7, l8, l9, l10, l11]
  simp only [byt_join, wBody, wSt, wD, gpOf, Gp.ev, Gp.gv, List.map_append, List.map_cons, List.map_nil, map_ifL, List.flatMap_append, List.flatMap_cons, List.flatMap_nil, flat_ifL, byt_nm, byt_kw, List.append_assoc, List.cons_append, List.nil_append, List.append_nil]

end Go.Proofs.YtcipkfhpcbddiaaGreat

/- What given wants, as its code puts it together, is what the frames are. No walk. -/
namespace Go.Proofs.YtcipkfhpcbddiaaGreat
open Go.RowKit

theorem nm_v (z : ByteArray) : nm z [48] = vN z 0 ∧ nm z [49] = vN z 1 ∧ nm z [50] = vN z 2 := by
  obtain ⟨v0, v1, v2⟩ := byt_v z
  exact ⟨byt_inj (by rw [byt_nm, v0]), byt_inj (by rw [byt_nm, v1]), byt_inj (by rw [byt_nm, v2])⟩
/-- A line, by its words. -/
def lnW (lab : ByteArray) (k : Int) (ss : List ByteArray) : ByteArray := ss.foldl (fun t x => t ++ (⟨#[32]⟩ ++ x)) (lab ++ ⟨#[32]⟩ ++ keyF k)
theorem line_lnW (s : St) : lineF s = lnW s.label s.kind s.symbols := by
  unfold lineF lineTo lnW; rw [List.take_length]
theorem byt_fold (ss : List ByteArray) (t : ByteArray) : byt (ss.foldl (fun t x => t ++ (⟨#[32]⟩ ++ x)) t) = byt t ++ ss.flatMap (fun x => 32 :: byt x) := by
  induction ss generalizing t with
  | nil => simp
  | cons a ss ih =>
    rw [List.foldl_cons, ih, List.flatMap_cons]
    simp only [byt_app, List.append_assoc]
    rfl
theorem byt_lnW (lab : ByteArray) (k : Int) (ss : List ByteArray) : byt (lnW lab k ss) = byt lab ++ [32] ++ byt (keyF k) ++ ss.flatMap (fun x => 32 :: byt x) := by
  unfold lnW
  rw [byt_fold, byt_app, byt_app]
  rfl
theorem line_f (z : ByteArray) (m : Nat) : lineF (endSt m (gvF z [48])) = lN z 0 ∧ lineF (endSt m (gvF z [49])) = lN z 1 ∧ lineF (endSt m (gvF z [50])) = lN z 2 := by
  obtain ⟨d0, d1, d2⟩ := byt_dig
  obtain ⟨v0, v1, v2⟩ := byt_v z
  have k2 : byt (keyF 2) = [36, 102] := rfl
  have e : ∀ v, lineF (endSt m (gvF z v)) = lnW (nm z (102 :: v)) 2 [nm z [99], nm z v] := fun v => line_lnW _
  refine ⟨?_, ?_, ?_⟩ <;> rw [e] <;> apply byt_inj <;> simp only [byt_lnW, byt_ln, byt_nm, k2, d0, d1, d2, v0, v1, v2, List.flatMap_cons, List.flatMap_nil, List.append_assoc, List.cons_append, List.nil_append, List.append_nil]
theorem line_e (z : ByteArray) (m : Nat) (hE : Bool) (eB gB dB : Nat → Bool) : lineF (endSt m (gvE z (gpOf hE eB gB dB))) = gEs z eB 2 := by
  obtain ⟨v0, v1, v2⟩ := byt_v z
  have k2 : byt (keyF 3) = [36, 101] := rfl
  have e : lineF (endSt m (gvE z (gpOf hE eB gB dB))) = lnW (nm z [101]) 3 (nm z [99] :: (ifL (eB 0) [[48]] ++ ifL (eB 1) [[49]] : List (List UInt8)).map (nm z)) := line_lnW _
  have x1 : byt (gEs z eB 0) = byt z ++ [101, 32, 36, 101, 32] ++ byt z ++ [99] := by
    rw [gEs]; simp only [byt_app]; rfl
  rw [e]
  apply byt_inj
  rw [byt_es z eB 1, byt_es z eB 0, x1]
  simp only [byt_lnW, byt_nm, k2, v0, v1, List.map_append, map_ifL, List.map_cons, List.map_nil, List.flatMap_append, flat_ifL, List.flatMap_cons, List.flatMap_nil, List.append_assoc, List.cons_append, List.nil_append, List.append_nil]
theorem line_b (z : ByteArray) (hE : Bool) (eB gB dB : Nat → Bool) : lineF (gvB z (gpOf hE eB gB dB)) = z ++ ⟨#[98]⟩ ++ gGo z gB 3 := by
  obtain ⟨v0, v1, v2⟩ := byt_v z
  have k2 : byt (keyF 4) = [36, 97] := rfl
  have l1 : byt ⟨#[98]⟩ = [98] := rfl
  have e : lineF (gvB z (gpOf hE eB gB dB)) = lnW (nm z [98]) 4 (nm z [99] :: (ifL (gB 0) [[48]] ++ ifL (gB 1) [[49]] ++ ifL (gB 2) [[50]] : List (List UInt8)).map (nm z)) := line_lnW _
  have x1 : byt (gGo z gB 0) = [32, 36, 97, 32] ++ byt z ++ [99] := by
    rw [gGo]; simp only [byt_app]; rfl
  rw [e]
  apply byt_inj
  rw [byt_app, byt_app, byt_go z gB 2, byt_go z gB 1, byt_go z gB 0, x1]
  simp only [byt_lnW, byt_nm, k2, l1, v0, v1, v2, List.map_append, map_ifL, List.map_cons, List.map_nil, List.flatMap_append, flat_ifL, List.flatMap_cons, List.flatMap_nil, List.append_assoc, List.cons_append, List.nil_append, List.append_nil]
theorem line_a (z : ByteArray) : lineF (gvA z) = z ++ ⟨#[97, 32, 36, 97, 32]⟩ ++ z ++ ⟨#[99]⟩ := by
  have k2 : byt (keyF 4) = [36, 97] := rfl
  have l1 : byt ⟨#[99]⟩ = [99] := rfl
  have l2 : byt ⟨#[97, 32, 36, 97, 32]⟩ = [97, 32, 36, 97, 32] := rfl
  have e : lineF (gvA z) = lnW (nm z [97]) 4 [nm z [99]] := line_lnW _
  rw [e]
  apply byt_inj
  simp only [byt_lnW, byt_app, byt_nm, k2, l1, l2, List.flatMap_cons, List.flatMap_nil, List.append_assoc, List.cons_append, List.nil_append, List.append_nil]

/-- What holds of the bits: an $e's variables are there only with the $e, and the third is in none. -/
structure EOk (hE : Bool) (eB : Nat → Bool) : Prop where
  two : eB 2 = false
  only : ∀ k, eB k = true → hE = true
def inB (eB gB : Nat → Bool) (k : Nat) : Bool := eB k || gB k
theorem bits_in {hE : Bool} {eB gB dB : Nat → Bool} (h : EOk hE eB) : (gpOf hE eB gB dB).i0 = inB eB gB 0 ∧ (gpOf hE eB gB dB).i1 = inB eB gB 1 ∧ (gpOf hE eB gB dB).g2 = inB eB gB 2 := by
  have h2 := h.two
  have h0 := h.only 0
  have h1 := h.only 1
  unfold Gp.i0 Gp.i1 inB gpOf
  simp only
  rw [h2]
  refine ⟨?_, ?_, rfl⟩
  · cases e : eB 0
    · simp
    · rw [h0 e]; simp
  · cases e : eB 1
    · simp
    · rw [h1 e]; simp
theorem hyps_want {hE : Bool} {eB gB dB : Nat → Bool} (h : EOk hE eB) (z : ByteArray) (m : Nat) : (hypL z (gpOf hE eB gB dB) m).map lineF = gWa z hE eB gB 3 := by
  obtain ⟨a0, a1, a2⟩ := bits_in (gB := gB) (dB := dB) h
  obtain ⟨f0, f1, f2⟩ := line_f z m
  have fe := line_e z m hE eB gB dB
  unfold hypL
  rw [a0, a1, a2]
  have b0 : ((0 : Nat) == 1) = false := rfl
  have b1 : ((1 : Nat) == 1) = true := rfl
  have b2 : ((2 : Nat) == 1) = false := rfl
  have i0 : ∀ l : List ByteArray, ifL false l = [] := fun _ => rfl
  have e : gWa z hE eB gB 3 = ifL (inB eB gB 0) [lN z 0] ++ ifL (inB eB gB 1) [lN z 1] ++ ifL hE [gEs z eB 2] ++ ifL (inB eB gB 2) [lN z 2] := by
    show gWa z hE eB gB (2 + 1) = _
    rw [gWa, gWa, gWa, gWa, b0, b1, b2, Bool.false_and, Bool.true_and, i0, i0, List.append_nil, List.append_nil, List.nil_append]
    rfl
  rw [e]
  simp only [List.map_append, map_ifL, List.map_cons, List.map_nil, f0, f1, f2, fe]
  rfl
/-- The pairs that given wants. -/
def gPa (z : ByteArray) (eB gB dB : Nat → Bool) (i j q : Nat) : List ByteArray := ifL (dB q && (inB eB gB i && inB eB gB j)) [⟨#[36, 100, 32]⟩ ++ vN z i ++ ⟨#[32]⟩ ++ vN z j]
theorem pairs_want {hE : Bool} {eB gB dB : Nat → Bool} (h : EOk hE eB) (z : ByteArray) : (gPrs z (gpOf hE eB gB dB)).map pairLine = gPa z eB gB dB 0 1 0 ++ gPa z eB gB dB 0 2 1 ++ gPa z eB gB dB 1 2 2 := by
  obtain ⟨a0, a1, a2⟩ := bits_in (gB := gB) (dB := dB) h
  obtain ⟨v0, v1, v2⟩ := nm_v z
  unfold gPrs gPa sPrs
  rw [a0, a1, a2]
  simp only [List.map_append, map_ifL, List.map_cons, List.map_nil, v0, v1, v2]
  rfl
theorem want_b {hE : Bool} {eB gB dB : Nat → Bool} (h : EOk hE eB) (T z : ByteArray) : wantB T z (gpOf hE eB gB dB) = hlL T ++ gWa z hE eB gB 3 ++ plL T ++ gPa z eB gB dB 0 1 0 ++ gPa z eB gB dB 0 2 1 ++ gPa z eB gB dB 1 2 2 ++ [z ++ ⟨#[98]⟩ ++ gGo z gB 3] := by
  unfold wantB
  rw [hyps_want h, pairs_want h, line_b]
  simp only [List.append_assoc]
theorem want_a (T z : ByteArray) : wantA T z = hlL T ++ plL T ++ [z ++ ⟨#[97, 32, 36, 97, 32]⟩ ++ z ++ ⟨#[99]⟩] := by
  unfold wantA
  rw [line_a]
/-- Which variables are there. -/
theorem has_va {eB gB : Nat → Bool} (z : ByteArray) : hasF (gVa z eB gB 3) (vN z 0) = inB eB gB 0 ∧ hasF (gVa z eB gB 3) (vN z 1) = inB eB gB 1 ∧ hasF (gVa z eB gB 3) (vN z 2) = inB eB gB 2 := by
  obtain ⟨v0, v1, v2⟩ := nm_v z
  have e : gVa z eB gB 3 = (ifL (inB eB gB 0) [[48]] ++ ifL (inB eB gB 1) [[49]] ++ ifL (inB eB gB 2) [[50]] : List (List UInt8)).map (nm z) := by
    show gVa z eB gB (2 + 1) = _
    rw [gVa, gVa, gVa, gVa]
    simp only [List.map_append, map_ifL, List.map_cons, List.map_nil, v0, v1, v2, List.nil_append]
    rfl
  rw [e, ← v0, ← v1, ← v2, has_nm, has_nm, has_nm]
  cases inB eB gB 0 <;> cases inB eB gB 1 <;> cases inB eB gB 2 <;> decide

end Go.Proofs.YtcipkfhpcbddiaaGreat

/- The bits that given looks at. No walk. -/
namespace Go.Proofs.YtcipkfhpcbddiaaGreat
open Go.RowKit

def bitB (B j : Nat) : Bool := (bits BinOp.and IntKind.i64 ((B : Int) / 2 ^ j) 1 == 1)
def eBf (B M k : Nat) : Bool := decide (k < 2) && decide (8 ≤ M) && bitB B (2 * k)
def gBf (B k : Nat) : Bool := bitB B (2 * k + 1)
def hEf (M : Nat) : Bool := decide (8 ≤ M)
/-- Are the two apart, by the bits of the second number? -/
def dBf (M k : Nat) : Bool := !(bits BinOp.and IntKind.i64 ((M : Int) / 2 ^ k) 1 == 0)
def fullF (M : Nat) : Bool := (bits BinOp.and IntKind.i64 (M : Int) 7 == 7)
theorem eBf_yes {B M k : Nat} (h1 : (8 : Int) ≤ (M : Int)) (h2 : (k : Int) < 2) : eBf B M k = (bits BinOp.and IntKind.i64 ((B : Int) / 2 ^ (2 * k)) 1 == 1) := by
  unfold eBf bitB
  rw [show decide (k < 2) = true by simp; omega, show decide (8 ≤ M) = true by simp; omega]; rfl
theorem eBf_no1 {B M k : Nat} (h1 : ¬ (8 : Int) ≤ (M : Int)) : eBf B M k = false := by
  unfold eBf
  rw [show decide (8 ≤ M) = false by simp; omega]; simp
theorem eBf_no2 {B M k : Nat} (h1 : ¬ (k : Int) < 2) : eBf B M k = false := by
  unfold eBf
  rw [show decide (k < 2) = false by simp; omega]; simp
theorem eBf_ok (B M : Nat) : EOk (hEf M) (eBf B M) := by
  refine ⟨eBf_no2 (by omega), fun k hk => ?_⟩
  unfold eBf at hk
  simp only [Bool.and_eq_true] at hk
  exact hk.1.2
theorem full_all : (List.range 16).all (fun M => fullF M == (dBf M 0 && dBf M 1 && dBf M 2)) = true := by decide +kernel
theorem full_is (M : Nat) (h : M < 16) : fullF M = (dBf M 0 && dBf M 1 && dBf M 2) := by
  have := List.all_eq_true.1 full_all M (List.mem_range.2 h)
  simpa using this
theorem fin_at (T z : ByteArray) (B M : Nat) (h : M < 16) : gFin T z (hEf M) (eBf B M) (gBf B) (dBf M) (fullF M) = gvU T z (gpOf (hEf M) (eBf B M) (gBf B) (dBf M)) := by
  rw [full_is M h]
  exact fin_is T z (hEf M) (eBf B M) (gBf B) (dBf M)

end Go.Proofs.YtcipkfhpcbddiaaGreat

/- The two loops of given over the pairs, step by step. No walk. -/
namespace Go.Proofs.YtcipkfhpcbddiaaGreat
open Go.RowKit

/-- The inner loop at i: n rounds. -/
def qiT (z : ByteArray) (dB : Nat → Bool) (i : Nat) (t : ByteArray) : Nat → ByteArray
  | 0 => t
  | n + 1 => gD1 z (qiT z dB i t n) i (i + 1 + n) (dB (2 * i + n))
def qT (z : ByteArray) (dB : Nat → Bool) (t : ByteArray) : Nat → ByteArray
  | 0 => t
  | i + 1 => qiT z dB i (qT z dB t i) (2 - i)
def qiW (z : ByteArray) (eB gB dB : Nat → Bool) (i : Nat) (L : List ByteArray) : Nat → List ByteArray
  | 0 => L
  | n + 1 => qiW z eB gB dB i L n ++ gPa z eB gB dB i (i + 1 + n) (2 * i + n)
def qW (z : ByteArray) (eB gB dB : Nat → Bool) : Nat → List ByteArray
  | 0 => []
  | i + 1 => qiW z eB gB dB i (qW z eB gB dB i) (2 - i)
theorem qT_end (z : ByteArray) (dB : Nat → Bool) (t : ByteArray) : qT z dB t 3 = gD1 z (gD1 z (gD1 z t 0 1 (dB 0)) 0 2 (dB 1)) 1 2 (dB 2) := rfl
theorem qW_end (z : ByteArray) (eB gB dB : Nat → Bool) : qW z eB gB dB 3 = gPa z eB gB dB 0 1 0 ++ gPa z eB gB dB 0 2 1 ++ gPa z eB gB dB 1 2 2 := rfl
theorem has_vi {eB gB : Nat → Bool} (z : ByteArray) (i : Nat) (h : i < 3) : hasF (gVa z eB gB 3) (vN z i) = inB eB gB i := by
  obtain ⟨h0, h1, h2⟩ := has_va (eB := eB) (gB := gB) z
  match i, h with
  | 0, _ => exact h0
  | 1, _ => exact h1
  | 2, _ => exact h2
/-- The end of the text. -/
theorem fin_end (T z : ByteArray) (B M : Nat) (h : M < 16) : qT z (dBf M) (gFu z (gTx T z 3 ++ ⟨#[32, 36, 46]⟩ ++ gTy z (hEf M) (eBf B M) 3) (fullF M)) 3 ++ ⟨#[32]⟩ ++ z ++ ⟨#[98]⟩ ++ gGo z (gBf B) 3 ++ ⟨#[32, 36, 46, 32, 36, 125, 10]⟩ ++ z ++ ⟨#[97, 32, 36, 97, 32]⟩ ++ z ++ ⟨#[99, 32, 36, 46]⟩ = gvU T z (gpOf (hEf M) (eBf B M) (gBf B) (dBf M)) := by
  rw [← fin_at T z B M h, qT_end]; rfl
theorem want_end (T z : ByteArray) (B M : Nat) : hlL T ++ gWa z (hEf M) (eBf B M) (gBf B) 3 ++ plL T ++ qW z (eBf B M) (gBf B) (dBf M) 3 ++ [z ++ ⟨#[98]⟩ ++ gGo z (gBf B) 3] = wantB T z (gpOf (hEf M) (eBf B M) (gBf B) (dBf M)) := by
  rw [want_b (eBf_ok B M), qW_end]
  simp only [List.append_assoc]
/-- The variables lie in memory. -/
theorem owns_find {w : World} {h : Hd} {L : List ByteArray} (o : Owns w h (rowS L)) : ∀ j y, L[j]? = some y → ∃ g, h.ao = some ⟨g, 0, none⟩ ∧ g < w.heap.size ∧ w.cell? ⟨g, j, none⟩ = some (.string y) := by
  intro j y hj
  rcases o.ways with ⟨_, h0, _⟩ | ⟨g, cur, e1, e2, e3, -⟩
  · have h0 : L.length = 0 := h0
    have := (List.getElem?_eq_some_iff.1 hj).1
    omega
  · exact ⟨g, e1, lt_of_get e2, o.cell e1 j (.string y) (by simp [rowS, strs, hj])⟩
theorem owns_same {w : World} {h : Hd} {L : List ByteArray} (o : Owns w h (rowS L)) (hL : 0 < L.length) : ∃ g, h.ao = some ⟨g, 0, none⟩ ∧ g < w.heap.size ∧ Hid (∀ j y, L[j]? = some y → w.cell? ⟨g, j, none⟩ = some (.string y)) := by
  rcases o.ways with ⟨_, h0, _⟩ | ⟨g, cur, e1, e2, e3, -⟩
  · have h0 : L.length = 0 := h0
    omega
  · exact ⟨g, e1, lt_of_get e2, fun j y hj => o.cell e1 j (.string y) (by simp [rowS, strs, hj])⟩
theorem lns_all {w : World} {g : Nat} {L : List ByteArray} (h : LnsAt w g L L.length) : Hid (∀ j y, L[j]? = some y → w.cell? ⟨g, j, none⟩ = some (.string y)) := by
  intro j y hj
  obtain ⟨h1, h2⟩ := List.getElem?_eq_some_iff.1 hj
  rw [lns_cell h j h1, h2]
theorem GvS.seen {w0 w w' : World} {n b x F g : Nat} {ao : Option Addr} {cap : Nat} {T z : ByteArray} {o : Option Nat} {hw hv : Hd} {Lw Lv : List ByteArray} (h : GvS w0 w n b x F g ao cap T z o hw Lw hv Lv) (k : Kept [x] w w') (hW : WorldAt w' b x T o) (hV : ∃ fs, SomeAt w' x fs ∧ MOk 0 fs) (hx : x < w0.heap.size) : GvS w0 w' n b x F g ao cap T z o hw Lw hv Lv := by
  obtain ⟨l1, l2, l3, l4, l5, l6⟩ := h.low
  have f1 := h.O.F.1
  have f2 := h.O.g
  exact ⟨hW, hV, h.O.kept k (by simp; omega) (by simp; omega), h.want.moved (fun q hq => k.block q (h.want.lt hq) (by simp; have := h.farW q hq; omega)), h.vars.moved (fun q hq => k.block q (h.vars.lt hq) (by simp; have := h.farV q hq; omega)), h.farW, h.farV, h.apart, ⟨l1, l2, l3, l4, l5, Nat.le_trans l6 k.size⟩, h.kept.1.trans k, h.kept.2⟩

end Go.Proofs.YtcipkfhpcbddiaaGreat

/- Package metaproofkeep: holds, digits, fresh. -/
namespace Go.Proofs.YtcipkfhpcbddiaaGreat
open Go.RowKit

def subAt (s u : ByteArray) (i : Nat) : Bool := (s.extract i (i + u.size)).toList == u.toList
def subF (s u : ByteArray) : Bool := (List.range (s.size + 1)).any (fun i => decide (i + u.size ≤ s.size) && subAt s u i)
theorem sub_in {s u : ByteArray} (h : subF s u = false) : ¬ InT s u := by
  rintro ⟨a, h1, h2⟩
  unfold subF at h
  rw [List.any_eq_false] at h
  refine h a (List.mem_range.2 (by omega)) ?_
  have := extract_is s u a h1 h2
  simp [h1, subAt, this]
theorem in_sub {s u : ByteArray} (h : subF s u = true) : InT s u := by
  unfold subF at h
  obtain ⟨a, -, ha⟩ := List.any_eq_true.1 h
  simp only [Bool.and_eq_true, decide_eq_true_eq] at ha
  have e := bytes_eq ha.2
  refine ⟨a, ha.1, fun i hi => ?_⟩
  have := byteAt_extract s a (a + u.size) i ha.1 (by omega)
  rw [← this, e]

set_option maxHeartbeats 400000 in
theorem hold_any (s u : ByteArray) (w : World) (hs : s.size ≤ 4294967296) (hu : u.size ≤ 4294967296) :
    Calls Tryz.prog 17 #[.string s, .string u] w fun e w' => e = .returned (.bool (subF s u)) ∧ w' = w := by
  go_enter Tryz.func17, Tryz.ntmps17
  go_wp2
  go_loopg [5] (s.size + 1) (fun g i wr => ∃ k : Nat, k ≤ s.size + 1 ∧ g = s.size + 1 - k ∧ i = .int .i64 k ∧ Hid (∀ i, i < k → i + u.size ≤ s.size → subAt s u i = false) ∧ wr = w)
  case atStart => exact ⟨0, by omega, by omega, rfl, fun i h => by omega, rfl⟩
  case round =>
    obtain ⟨k, hk, hg, rfl, hall, rfl⟩ := hrel
    by_cases hlt : k + u.size ≤ s.size
    · have hi1 : (k : Int) ≤ (k : Int) + (u.size : Int) := by omega
      have hi2 : (k : Int) + (u.size : Int) ≤ (s.size : Int) := by omega
      have htn : ((k : Int) + (u.size : Int)).toNat = k + u.size := by omega
      cases hb : ((s.extract k (k + u.size)).toList == u.toList)
      · go_wp2
        go_roundg (s.size + 1 - (k + 1))
        case measure => omega
        case rel =>
          refine ⟨k + 1, by omega, rfl, by go_num, ?_, rfl⟩
          intro i hi h2
          by_cases e : i = k
          · subst e; exact hb
          · exact hall.out i (by omega) h2
      · have HY : Hid (subF s u = true) := any_yes k (by omega) (by simp [hlt, subAt, hb])
        go_wp2
        go_ret
        exact ⟨ret_bool HY.out.symm, rfl⟩
    · have HY : Hid (subF s u = false) := any_no (fun i hi => by
        by_cases h2 : i + u.size ≤ s.size
        · simp [hall.out i (by omega) h2]
        · simp [h2])
      go_wp2
      go_ret
      exact ⟨ret_bool HY.out.symm, rfl⟩

theorem dig_conv (n : Nat) (wx : World) : (convert 92 9 (.slice (some ⟨wx.heap.size, 0, none⟩) 1 1)).run Tryz.prog (wx.alloc (.cells #[.int .u8 (48 + (n : Int) % 10)] 5)) = .ok (.string (digB n)) (wx.alloc (.cells #[.int .u8 (48 + (n : Int) % 10)] 5)) := by
  have e : (48 + (n : Int) % 10) = ((UInt8.ofNat (48 + n % 10)).toNat : Int) := by
    rw [UInt8.toNat_ofNat']; omega
  rw [e]
  exact run_convert_bytes_back (wx.alloc (.cells #[.int .u8 ((UInt8.ofNat (48 + n % 10)).toNat : Int)] 5)) 92 9 5 ⟨wx.heap.size, 0, none⟩ 1 [UInt8.ofNat (48 + n % 10)] Tryz.underlying92 Tryz.underlying5 Tryz.underlying9 (by
    intro j hj
    match j, hj with
    | 0, _ => simp [Addr.add])
theorem digB_size (n : Nat) : (digB n).size = 1 := rfl
theorem digGo_zero (f : Nat) (s : ByteArray) : digGo f 0 s = s := by cases f <;> rfl

set_option maxHeartbeats 800000 in
theorem digits_any (n : Nat) (w : World) (hn : n ≤ 9999) :
    Calls Tryz.prog 26 #[.int .i64 n] w fun e w' => e = .returned (.string (digF n)) ∧ Kept [] w w' := by
  have hcv := fun wx => dig_conv n wx
  have hm10 : 0 ≤ (n : Int) % 10 ∧ (n : Int) % 10 ≤ 9 := by omega
  go_enter Tryz.func26, Tryz.ntmps26
  go_wp2
  go_loopg [0, 3] (n / 10) (fun g iv sv wr => ∃ (f m : Nat) (s : ByteArray), g = m ∧ iv = .int .i64 m ∧ sv = .string s ∧ m < 10 ^ f ∧ m ≤ 9999 ∧ s.size + f ≤ 21 ∧ Hid (digGo f m s = digF n) ∧ Kept [] w wr)
  case atStart => exact ⟨20, n / 10, digB n, rfl, by simp, rfl, by omega, by omega, (by rw [digB_size]; omega), rfl, (Kept.refl _ _).alloc _⟩
  case round =>
    obtain ⟨f, m, s, hg, rfl, rfl, hf, hm, hs, hD, hK⟩ := hrel
    clear hcv hm10
    by_cases hlt : 0 < m
    · have hcv := fun wx => dig_conv m wx
      have hm10 : 0 ≤ (m : Int) % 10 ∧ (m : Int) % 10 ≤ 9 := by omega
      have hmi : (m : Int) > 0 := by omega
      obtain ⟨f', rfl⟩ : ∃ f', f = f' + 1 := by
        cases f with
        | zero => simp at hf; omega
        | succ f' => exact ⟨f', rfl⟩
      have HD : Hid (digGo f' (m / 10) (digB m ++ s) = digF n) := by
        show _ = _
        rw [← hD.out, digGo, if_pos hlt]
      have hds := digB_size m
      have hf' : m / 10 < 10 ^ f' := by
        rw [Nat.pow_succ] at hf
        exact Nat.div_lt_of_lt_mul (by omega)
      have hsz : (digB m ++ s).size = 1 + s.size := by rw [ByteArray.size_append, hds]
      have Hsz := (show Hid _ from hsz)
      clear hD hsz
      go_wp2
      go_roundg (m / 10)
      case measure => omega
      case rel => exact ⟨f', m / 10, digB m ++ s, rfl, by simp, rfl, hf', by omega, by have := Hsz.out; omega, HD, hK.alloc _⟩
    · have e : m = 0 := by omega
      subst e
      have HD : Hid (s = digF n) := by show _ = _; rw [← hD.out, digGo_zero]
      clear hD
      go_wp2
      go_ret
      exact ⟨ret_str HD.out, hK⟩

set_option maxHeartbeats 1000000 in
theorem fresh_any (b x : Nat) (T : ByteArray) (o : Option Nat) (w : World) (hW : WorldAt w b x T o) (hT : Fine T) :
    Calls Tryz.prog 23 #[.pointer (some ⟨b, 0, none⟩)] w fun e w' => ∃ n, n ≤ 1024 ∧ e = .returned (.string (zF n)) ∧ ¬ InT T (zF n) ∧ Kept [] w w' := by
  have hTs := hT.size
  go_enter Tryz.func23, Tryz.ntmps23
  go_wp2
  go_loopg [3] (T.size + 1) (fun g i wr => ∃ k : Nat, k ≤ T.size + 1 ∧ g = T.size + 1 - k ∧ i = .int .i64 k ∧ Hid (∀ j, j < k → InT T (zF j)) ∧ Kept [] w wr)
  case atStart => exact ⟨0, by omega, by omega, rfl, fun i h => by omega, Kept.refl _ _⟩
  case round =>
    obtain ⟨k, hk, hg, rfl, hall, hK⟩ := hrel
    have hWr := hW.still hK
    obtain ⟨c0, c1, -⟩ := hWr.cells
    have hbw := hWr.lt
    by_cases hlt : k ≤ T.size
    · have hds := dig_size k (by omega)
      have HZ : Hid (⟨#[122]⟩ ++ digF k ++ ⟨#[122]⟩ = zF k) := rfl
      have hzs := zF_size k
      go_wp2_with fail
      refine (digits_any k wr (by omega)).mono ?_
      rintro e w1 ⟨rfl, k1⟩
      have hW1 := hWr.still k1
      clear c0 c1
      obtain ⟨c0, c1, -⟩ := hW1.cells
      have hb1 := hW1.lt
      generalize hdk : digF k = dk at *
      go_wp2_with fail
      rw [HZ.out]
      refine (hold_any T (zF k) w1 (by omega) (by omega)).mono ?_
      rintro e w2 ⟨rfl, rfl⟩
      cases hsb : subF T (zF k)
      · have HN := (show Hid _ from sub_in hsb)
        go_wp2
        go_ret
        rw [HZ.out]
        exact ⟨k, by omega, rfl, HN.out, hK.trans k1⟩
      · have HI := (show Hid _ from in_sub hsb)
        go_wp2
        go_roundg (T.size + 1 - (k + 1))
        case measure => omega
        case rel =>
          refine ⟨k + 1, by omega, rfl, by go_num, ?_, hK.trans k1⟩
          intro j hj
          by_cases e : j = k
          · subst e; exact HI.out
          · exact hall.out j (by omega)
    · exact (fresh_ex T hTs (fun n hn => hall.out n (by omega))).elim

end Go.Proofs.YtcipkfhpcbddiaaGreat
