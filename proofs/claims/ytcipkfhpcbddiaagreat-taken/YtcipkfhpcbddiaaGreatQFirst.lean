import Derived.Test.YtcipkfhpcbddiaaGreatG15
/- Package metaproofkeep: first. -/
namespace Go.Proofs.YtcipkfhpcbddiaaGreat
open Go.RowKit

/-- Verify of a file without inclusions. -/
theorem verify_gen (x k : Nat) (fs : List (ByteArray × ByteArray)) (nm t : ByteArray) (w : World) (h : SomeAt w x fs) (hf : findF fs nm = k) (hk : k < fs.length) (hk4 : k < 4) (hnm : fileNm fs k = nm) (hdt : fileDt fs k = t) (hsz : FilesOk fs) (hni : holdsF t = false) :
    Calls Tryz.prog 15 #[.pointer (some ⟨x, 0, none⟩), .string nm] w fun e w' =>
      (if ((readF nm t 0 emptyDb).1.1 == 0) = true then e = .returned (.tuple #[.agg #[.int .i64 0, .string ⟨#[]⟩, .int .i64 0, .int .i64 0], .int .i64 0]) ∧ ∃ H g, RptAt w' x fs (readF nm t 0 emptyDb).2.sts H g ∧ w.heap.size ≤ g ∧ ∀ k, InH H k → w.heap.size ≤ k
       else e = .returned (.tuple #[.agg #[.int .i64 (readF nm t 0 emptyDb).1.1, .string nm, .int .i64 (lineAt t (readF nm t 0 emptyDb).1.2), .int .i64 (colAt t (readF nm t 0 emptyDb).1.2)], .int .i64 6]) ∧ BareAt w' x fs) ∧ Kept [x] w w' := by
  have hs : (fileDt fs k).size ≤ 1024 := hsz k hk
  have hp := readAll_plain fs k hk4 hs (by rw [hdt]; exact noInc_of t hni)
  rw [hnm, hdt] at hp
  refine (verify_any x k fs nm w h hf hk hsz).mono ?_
  rintro e w' ⟨hc, hK⟩
  refine ⟨?_, hK⟩
  rw [hp] at hc
  unfold fltOf at hc
  cases hr : ((readF nm t 0 emptyDb).1.1 == 0) with
  | true =>
    simp only [hr, if_true] at hc ⊢
    rw [if_pos (by rfl)] at hc
    exact hc
  | false =>
    simp only [hr, Bool.false_eq_true, if_false] at hc ⊢
    exact hc

theorem fresh_kept {w w' : World} (h : Kept [w.heap.size] w w') : Kept [] w w' :=
  ⟨h.os, h.tape, h.output, h.size, fun k hk _ => h.block k hk (by simp; omega)⟩
def fsOne : List (ByteArray × ByteArray) := [(⟨#[109]⟩, ⟨#[36, 99, 32, 119, 32, 36, 46, 32, 36, 118, 32, 112, 32, 36, 46, 32, 119, 112, 32, 36, 102, 32, 119, 32, 112, 32, 36, 46, 10, 97, 32, 36, 97, 32, 119, 32, 112, 32, 36, 46]⟩)]
def fsTwo : List (ByteArray × ByteArray) := [(⟨#[109]⟩, ⟨#[36, 99, 32, 119, 32, 36, 46, 32, 36, 118, 32, 112, 32, 36, 46, 32, 119, 112, 32, 36, 102, 32, 119, 32, 112, 32, 36, 46, 10, 97, 32, 36, 97, 32, 119, 32, 112, 32, 36, 46]⟩), (⟨#[110]⟩, ⟨#[36, 99, 32, 119, 32, 36, 46, 10, 32, 36, 99, 32, 119, 32, 36, 46]⟩)]
theorem firstPut1 : putF [] ⟨#[109]⟩ ⟨#[36, 99, 32, 119, 32, 36, 46, 32, 36, 118, 32, 112, 32, 36, 46, 32, 119, 112, 32, 36, 102, 32, 119, 32, 112, 32, 36, 46, 10, 97, 32, 36, 97, 32, 119, 32, 112, 32, 36, 46]⟩ = (0, fsOne) := by decide +kernel
theorem firstPut2 : putF fsOne ⟨#[110]⟩ ⟨#[36, 99, 32, 119, 32, 36, 46, 10, 32, 36, 99, 32, 119, 32, 36, 46]⟩ = (0, fsTwo) := by decide +kernel
theorem firstReadM : (readF ⟨#[109]⟩ ⟨#[36, 99, 32, 119, 32, 36, 46, 32, 36, 118, 32, 112, 32, 36, 46, 32, 119, 112, 32, 36, 102, 32, 119, 32, 112, 32, 36, 46, 10, 97, 32, 36, 97, 32, 119, 32, 112, 32, 36, 46]⟩ 0 emptyDb).1 = (0, 0) := by decide +kernel
theorem firstReadN : (readF ⟨#[110]⟩ ⟨#[36, 99, 32, 119, 32, 36, 46, 10, 32, 36, 99, 32, 119, 32, 36, 46]⟩ 0 emptyDb).1 = (13, 12) := by decide +kernel
theorem firstLine : lineAt ⟨#[36, 99, 32, 119, 32, 36, 46, 10, 32, 36, 99, 32, 119, 32, 36, 46]⟩ 12 = 2 ∧ colAt ⟨#[36, 99, 32, 119, 32, 36, 46, 10, 32, 36, 99, 32, 119, 32, 36, 46]⟩ 12 = 5 := by decide +kernel
theorem fsTwo_ok : FilesOk fsTwo := by
  rw [filesOk_all]
  intro f hf
  simp only [fsTwo, List.mem_cons, List.not_mem_nil, or_false] at hf
  rcases hf with rfl | rfl <;> decide

set_option maxHeartbeats 1000000 in
set_option maxRecDepth 100000 in
theorem firstly_any (w : World) : Calls Tryz.prog 7 #[] w fun e w' => e = .returned (.bool true) ∧ Kept [] w w' := by
  have VM : ∀ (w' : World) (x : Nat), SomeAt w' x fsTwo → Calls Tryz.prog 15 #[.pointer (some ⟨x, 0, none⟩), .string ⟨#[109]⟩] w' fun e w'' => e = .returned (.tuple #[.agg #[.int .i64 0, .string ⟨#[]⟩, .int .i64 0, .int .i64 0], .int .i64 0]) ∧ SomeAt w'' x fsTwo ∧ Kept [x] w' w'' := by
    intro w' x h
    refine (verify_gen x 0 fsTwo ⟨#[109]⟩ ⟨#[36, 99, 32, 119, 32, 36, 46, 32, 36, 118, 32, 112, 32, 36, 46, 32, 119, 112, 32, 36, 102, 32, 119, 32, 112, 32, 36, 46, 10, 97, 32, 36, 97, 32, 119, 32, 112, 32, 36, 46]⟩ w' h (by decide +kernel) (by decide) (by decide) rfl rfl fsTwo_ok (by decide +kernel)).mono ?_
    rintro e w'' ⟨hc, hK⟩
    rw [firstReadM, if_pos (by rfl)] at hc
    obtain ⟨h1, H, g, h2, -⟩ := hc
    exact ⟨h1, h2.anyR, hK⟩
  have VN : ∀ (w' : World) (x : Nat), SomeAt w' x fsTwo → Calls Tryz.prog 15 #[.pointer (some ⟨x, 0, none⟩), .string ⟨#[110]⟩] w' fun e w'' => e = .returned (.tuple #[.agg #[.int .i64 13, .string ⟨#[110]⟩, .int .i64 2, .int .i64 5], .int .i64 6]) ∧ Kept [x] w' w'' := by
    intro w' x h
    refine (verify_gen x 1 fsTwo ⟨#[110]⟩ ⟨#[36, 99, 32, 119, 32, 36, 46, 10, 32, 36, 99, 32, 119, 32, 36, 46]⟩ w' h (by decide +kernel) (by decide) (by decide) rfl rfl fsTwo_ok (by decide +kernel)).mono ?_
    rintro e w'' ⟨hc, hK⟩
    rw [firstReadN, if_neg (by decide)] at hc
    simp only [firstLine.1, firstLine.2] at hc
    exact ⟨hc.1, hK⟩
  have HVM := (show Hid _ from VM)
  have HVN := (show Hid _ from VN)
  clear VM VN
  have hpe := fun (wx : World) => placeEql ⟨#[110]⟩ 2 5 wx
  go_enter Tryz.func7, Tryz.ntmps7
  go_wp2_with fail
  refine (new_any _).mono ?_
  rintro e w1 ⟨rfl, hV1, hk1⟩
  go_wp2_with fail
  refine (vput_any w.heap.size ⟨#[109]⟩ ⟨#[36, 99, 32, 119, 32, 36, 46, 32, 36, 118, 32, 112, 32, 36, 46, 32, 119, 112, 32, 36, 102, 32, 119, 32, 112, 32, 36, 46, 10, 97, 32, 36, 97, 32, 119, 32, 112, 32, 36, 46]⟩ [] _ hV1.anyR (by decide) (by decide)).mono ?_
  rintro e w2 ⟨rfl, hV2, -, hk2⟩
  rw [firstPut1] at hV2 ⊢
  go_wp2_with fail
  refine (vput_any w.heap.size ⟨#[110]⟩ ⟨#[36, 99, 32, 119, 32, 36, 46, 10, 32, 36, 99, 32, 119, 32, 36, 46]⟩ _ _ hV2 (by decide) (by decide)).mono ?_
  rintro e w3 ⟨rfl, hV3, -, hk3⟩
  rw [firstPut2] at hV3 ⊢
  go_wp2_with fail
  refine Calls.mono (HVM.out _ _ hV3) ?_
  rintro e w4 ⟨rfl, hV4, hk4⟩
  have hx4 := hV4.lt
  have hkk : Kept [w.heap.size] w w4 := (((hk1.mono (by simp)).trans hk2).trans hk3).trans hk4
  go_wp2_with fail
  refine Calls.mono (HVN.out _ _ (hV4.kept ((Kept.refl [] _).alloc _) (by simp))) ?_
  rintro e w5 ⟨rfl, hk5⟩
  have hF5 : w5.heap[w4.heap.size]? = some (.cells #[.int .i64 0, .string ⟨#[]⟩, .int .i64 0, .int .i64 0] 41 (0, 0)) := hk5.get (heap_alloc_new _ _) (by simp; omega)
  obtain ⟨z0, z1, z2, z3⟩ := zero_cells hF5
  have hF5w := lt_of_get hF5
  have hk6 := (hkk.alloc (.cells #[.int .i64 0, .string ⟨#[]⟩, .int .i64 0, .int .i64 0] 41)).trans hk5
  go_wp2
  go_ret
  exact ⟨rfl, fresh_kept ((hk6.alloc _).alloc _)⟩

end Go.Proofs.YtcipkfhpcbddiaaGreat
