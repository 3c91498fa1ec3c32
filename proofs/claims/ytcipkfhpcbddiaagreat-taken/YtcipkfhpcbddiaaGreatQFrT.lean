import Derived.Test.YtcipkfhpcbddiaaGreatG15
import Derived.Test.YtcipkfhpcbddiaaGreatQFr5
import Derived.Test.YtcipkfhpcbddiaaGreatQFnd
/- The verifier: Frame. -/
namespace Go.Proofs.YtcipkfhpcbddiaaGreat
open Go.RowKit

theorem RptAt.recd {w : World} {x : Nat} {fs : List (ByteArray × ByteArray)} {l : List St} {H : Nat → Hd} {g : Nat} (h : RptAt w x fs l H g) : RecAt w x 10 l H := by
  obtain ⟨a7, n7, c7, hv⟩ := h.ver
  exact ⟨⟨_, _, hv.1, rfl⟩, h.sts⟩

theorem rfind_any (b o : Nat) (lab : ByteArray) (l : List St) (H : Nat → Hd) (w : World) (h : RecAt w b o l H) (hl : l.length ≤ 1073741824) :
    Calls Tryz.prog 47 #[.pointer (some ⟨b, o, none⟩), .string lab] w fun e w' => e = .returned (.int .i64 (optV (findAF l lab))) ∧ Kept [] w w' := by
  have HFA := (show Hid _ from findAssertion_any b o lab l H w h hl)
  go_enter Tryz.func47, Tryz.ntmps47
  go_wp2_with fail
  refine Calls.mono HFA.out ?_
  rintro e w1 ⟨rfl, k1⟩
  go_wp2
  go_ret
  exact ⟨rfl, k1⟩

set_option maxHeartbeats 1000000 in
theorem rframe_any (b o a : Nat) (l : List St) (H : Nat → Hd) (w : World) (h : RecAt w b o l H) (ha : a < l.length) (ok : RecOk l) (hz : SzsOk l) (hka : l[a].kind ≠ 1) :
    Calls Tryz.prog 39 #[.pointer (some ⟨b, o, none⟩), .int .i64 a] w fun e w' => ∃ g, e = .returned (.slice (some ⟨g, 0, none⟩) (linesF l a).length (linesF l a).length) ∧ LnsAt w' g (linesF l a) (linesF l a).length ∧ w.heap.size ≤ g ∧ Kept [] w w' := by
  have HFA := (show Hid _ from lines_any' b o a l H w h ha ok hz hka)
  go_enter Tryz.func39, Tryz.ntmps39
  go_wp2_with fail
  refine Calls.mono HFA.out ?_
  rintro e w1 ⟨g, rfl, h1, h2, k1⟩
  go_wp2
  go_ret
  exact ⟨g, rfl, h1, h2, k1⟩

set_option maxHeartbeats 1000000 in
theorem vfind_any (x : Nat) (fs : List (ByteArray × ByteArray)) (l : List St) (H : Nat → Hd) (g : Nat) (lab : ByteArray) (w : World) (h : RptAt w x fs l H g) (hl : l.length ≤ 1073741824) :
    Calls Tryz.prog 38 #[.pointer (some ⟨x, 0, none⟩), .string lab] w fun e w' => e = .returned (match findAF l lab with | some n => .tuple #[.int .i64 n, .int .i64 0] | none => .tuple #[.int .i64 0, .int .i64 8]) ∧ Kept [] w w' := by
  have HFA := (show Hid _ from rfind_any x 10 lab l H w h.recd hl)
  obtain ⟨a7, n7, c7, hv⟩ := h.ver
  obtain ⟨c9, c10, c11, c12⟩ := VerAt.cells hv
  have hxw := TabAt.lt hv
  cases hf : findAF l lab with
  | none =>
    rw [hf] at HFA
    simp only [optV] at HFA
    go_enter Tryz.func38, Tryz.ntmps38
    go_wp2_with fail
    refine Calls.mono HFA.out ?_
    rintro e w1 ⟨rfl, k1⟩
    go_wp2
    go_ret2
    exact ⟨rfl, k1⟩
  | some n =>
    rw [hf] at HFA
    simp only [optV] at HFA
    have hn0 : ¬ (n : Int) < 0 := by omega
    go_enter Tryz.func38, Tryz.ntmps38
    go_wp2_with fail
    refine Calls.mono HFA.out ?_
    rintro e w1 ⟨rfl, k1⟩
    go_wp2
    go_ret2
    exact ⟨rfl, k1⟩

/-- What Frame answers. -/
def FrameSays (l : List St) (lab : ByteArray) (w : World) (e : Ending) (w' : World) : Prop :=
  Kept [] w w' ∧ match findAF l lab with
    | some n => ∃ g, e = .returned (.tuple #[.slice (some ⟨g, 0, none⟩) (linesF l n).length (linesF l n).length, .int .i64 0]) ∧ LnsAt w' g (linesF l n) (linesF l n).length ∧ w.heap.size ≤ g
    | none => e = .returned (.tuple #[.slice none 0 0, .int .i64 8])
theorem findA_lt {l : List St} {lab : ByteArray} {n : Nat} (h : findAF l lab = some n) : ∃ h : n < l.length, isA l[n].kind = true ∧ l[n].label.toList = lab.toList := by
  unfold findAF at h
  have hm := List.mem_range.1 (List.mem_of_find?_eq_some h)
  have hs := List.find?_some h
  rw [namesA_eq l lab n hm] at hs
  simp only [Bool.and_eq_true] at hs
  exact ⟨hm, hs.2, by simpa using hs.1⟩

set_option maxHeartbeats 1000000 in
theorem vframe_any (x : Nat) (fs : List (ByteArray × ByteArray)) (l : List St) (H : Nat → Hd) (g : Nat) (lab : ByteArray) (w : World) (h : RptAt w x fs l H g) (ok : RecOk l) (hz : SzsOk l) :
    Calls Tryz.prog 28 #[.pointer (some ⟨x, 0, none⟩), .string lab] w fun e w' => FrameSays l lab w e w' := by
  have hlen := ok.len
  have VF := vfind_any x fs l H g lab w h (by omega)
  have hxw := TabAt.lt (Classical.choose_spec (Classical.choose_spec (Classical.choose_spec h.ver)))
  unfold FrameSays
  cases hf : findAF l lab with
  | none =>
    rw [hf] at VF
    have HVF := (show Hid _ from VF)
    clear VF
    go_enter Tryz.func28, Tryz.ntmps28
    go_wp2_with fail
    refine Calls.mono HVF.out ?_
    rintro e w1 ⟨rfl, k1⟩
    go_wp2
    go_ret2
    exact ⟨k1, rfl⟩
  | some n =>
    rw [hf] at VF
    obtain ⟨hn, ha, -⟩ := findA_lt hf
    have hk1 : l[n].kind ≠ 1 := by intro e; rw [e] at ha; revert ha; decide
    have HVF := (show Hid _ from VF)
    clear VF
    go_enter Tryz.func28, Tryz.ntmps28
    go_wp2_with fail
    refine Calls.mono HVF.out ?_
    rintro e w1 ⟨rfl, k1⟩
    have hr1 := (h.still k1).recd
    have hx1 := hr1.lt
    go_wp2_with fail
    refine (rframe_any x 10 n l H w1 hr1 hn ok hz hk1).mono ?_
    rintro e w2 ⟨g2, rfl, h2, h3, k2⟩
    have hs := k1.size
    go_wp2
    go_ret2
    exact ⟨k1.trans k2, g2, rfl, h2, by omega⟩

end Go.Proofs.YtcipkfhpcbddiaaGreat
