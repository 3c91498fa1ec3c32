/- Our texts: First, Judges, TakenEnd. -/
import Derived.Test.YtcipkfhpcbddiaaGreatG20
import Derived.Test.YtcipkfhpcbddiaaGreatG21
import Derived.Test.YtcipkfhpcbddiaaGreatG31
/- Package metaproofkeep: first. -/
namespace Go.Proofs.YtcipkfhpcbddiaaGreat
open Go.RowKit

/-- Verify of a file without inclusions. -/
theorem verify_gen (x k : Nat) (fs : List (ByteArray × ByteArray)) (nm t : ByteArray) (w : World) (h : SomeAt w x fs) (hf : findF fs nm = k) (hk : k < fs.length) (hk4 : k < 4) (hnm : fileNm fs k = nm) (hdt : fileDt fs k = t) (hsz : FilesOk fs) (hni : holdsF t = false) :
    Calls Tryz.prog 15 #[.pointer (some ⟨x, 0, none⟩), .string nm] w fun e w' =>
      (if ((readF nm t 0 emptyDb).1.1 == 0) = true then e = .returned (.tuple #[.agg #[.int .i64 0, .string ⟨#[]⟩, .int .i64 0, .int .i64 0], .int .i64 0]) ∧ ∃ H g, RptAt w' x fs (readF nm t 0 emptyDb).2.sts H g ∧ w.heap.size ≤ g ∧ ∀ k, InH H k → w.heap.size ≤ k
       else e = .returned (.tuple #[.agg #[.int .i64 (readF nm t 0 emptyDb).1.1, .string nm, .int .i64 (lineAt t (readF nm t 0 emptyDb).1.2), .int .i64 (colAt t (readF nm t 0 emptyDb).1.2)], .int .i64 6]) ∧ BareAt w' x fs) ∧ Kept [x] w w' := by
  have hs : (fileDt fs k).size ≤ 1024 := hsz k hk
  have hp := readAll_plain fs k hk4 hs (by rw [hdt]; exact noInc_of t hni)
  rw [hnm, hdt] at hp
  refine (verify_any x k fs nm w h hf hk hsz).mono ?_
  rintro e w' ⟨hc, hK⟩
  refine ⟨?_, hK⟩
  rw [hp] at hc
  unfold fltOf at hc
  cases hr : ((readF nm t 0 emptyDb).1.1 == 0) with
  | true =>
    simp only [hr, if_true] at hc ⊢
    rw [if_pos (by rfl)] at hc
    exact hc
  | false =>
    simp only [hr, Bool.false_eq_true, if_false] at hc ⊢
    exact hc

theorem fresh_kept {w w' : World} (h : Kept [w.heap.size] w w') : Kept [] w w' :=
  ⟨h.os, h.tape, h.output, h.size, fun k hk _ => h.block k hk (by simp; omega)⟩
def fsOne : List (ByteArray × ByteArray) := [(⟨#[109]⟩, ⟨#[36, 99, 32, 119, 32, 36, 46, 32, 36, 118, 32, 112, 32, 36, 46, 32, 119, 112, 32, 36, 102, 32, 119, 32, 112, 32, 36, 46, 10, 97, 32, 36, 97, 32, 119, 32, 112, 32, 36, 46]⟩)]
def fsTwo : List (ByteArray × ByteArray) := [(⟨#[109]⟩, ⟨#[36, 99, 32, 119, 32, 36, 46, 32, 36, 118, 32, 112, 32, 36, 46, 32, 119, 112, 32, 36, 102, 32, 119, 32, 112, 32, 36, 46, 10, 97, 32, 36, 97, 32, 119, 32, 112, 32, 36, 46]⟩), (⟨#[110]⟩, ⟨#[36, 99, 32, 119, 32, 36, 46, 10, 32, 36, 99, 32, 119, 32, 36, 46]⟩)]
theorem firstPut1 : putF [] ⟨#[109]⟩ ⟨#[36, 99, 32, 119, 32, 36, 46, 32, 36, 118, 32, 112, 32, 36, 46, 32, 119, 112, 32, 36, 102, 32, 119, 32, 112, 32, 36, 46, 10, 97, 32, 36, 97, 32, 119, 32, 112, 32, 36, 46]⟩ = (0, fsOne) := by decide +kernel
theorem firstPut2 : putF fsOne ⟨#[110]⟩ ⟨#[36, 99, 32, 119, 32, 36, 46, 10, 32, 36, 99, 32, 119, 32, 36, 46]⟩ = (0, fsTwo) := by decide +kernel
theorem firstReadM : (readF ⟨#[109]⟩ ⟨#[36, 99, 32, 119, 32, 36, 46, 32, 36, 118, 32, 112, 32, 36, 46, 32, 119, 112, 32, 36, 102, 32, 119, 32, 112, 32, 36, 46, 10, 97, 32, 36, 97, 32, 119, 32, 112, 32, 36, 46]⟩ 0 emptyDb).1 = (0, 0) := by decide +kernel
theorem firstReadN : (readF ⟨#[110]⟩ ⟨#[36, 99, 32, 119, 32, 36, 46, 10, 32, 36, 99, 32, 119, 32, 36, 46]⟩ 0 emptyDb).1 = (13, 12) := by decide +kernel
theorem firstLine : lineAt ⟨#[36, 99, 32, 119, 32, 36, 46, 10, 32, 36, 99, 32, 119, 32, 36, 46]⟩ 12 = 2 ∧ colAt ⟨#[36, 99, 32, 119, 32, 36, 46, 10, 32, 36, 99, 32, 119, 32, 36, 46]⟩ 12 = 5 := by decide +kernel
theorem fsTwo_ok : FilesOk fsTwo := by
  rw [filesOk_all]
  intro f hf
  simp only [fsTwo, List.mem_cons, List.not_mem_nil, or_false] at hf
  rcases hf with rfl | rfl <;> decide

set_option maxHeartbeats 1000000 in
set_option maxRecDepth 100000 in
theorem firstly_any (w : World) : Calls Tryz.prog 7 #[] w fun e w' => e = .returned (.bool true) ∧ Kept [] w w' := by
  have VM : ∀ (w' : World) (x : Nat), SomeAt w' x fsTwo → Calls Tryz.prog 15 #[.pointer (some ⟨x, 0, none⟩), .string ⟨#[109]⟩] w' fun e w'' => e = .returned (.tuple #[.agg #[.int .i64 0, .string ⟨#[]⟩, .int .i64 0, .int .i64 0], .int .i64 0]) ∧ SomeAt w'' x fsTwo ∧ Kept [x] w' w'' := by
    intro w' x h
    refine (verify_gen x 0 fsTwo ⟨#[109]⟩ ⟨#[36, 99, 32, 119, 32, 36, 46, 32, 36, 118, 32, 112, 32, 36, 46, 32, 119, 112, 32, 36, 102, 32, 119, 32, 112, 32, 36, 46, 10, 97, 32, 36, 97, 32, 119, 32, 112, 32, 36, 46]⟩ w' h (by decide +kernel) (by decide) (by decide) rfl rfl fsTwo_ok (by decide +kernel)).mono ?_
    rintro e w'' ⟨hc, hK⟩
    rw [firstReadM, if_pos (by rfl)] at hc
    obtain ⟨h1, H, g, h2, -⟩ := hc
    exact ⟨h1, h2.anyR, hK⟩
  have VN : ∀ (w' : World) (x : Nat), SomeAt w' x fsTwo → Calls Tryz.prog 15 #[.pointer (some ⟨x, 0, none⟩), .string ⟨#[110]⟩] w' fun e w'' => e = .returned (.tuple #[.agg #[.int .i64 13, .string ⟨#[110]⟩, .int .i64 2, .int .i64 5], .int .i64 6]) ∧ Kept [x] w' w'' := by
    intro w' x h
    refine (verify_gen x 1 fsTwo ⟨#[110]⟩ ⟨#[36, 99, 32, 119, 32, 36, 46, 10, 32, 36, 99, 32, 119, 32, 36, 46]⟩ w' h (by decide +kernel) (by decide) (by decide) rfl rfl fsTwo_ok (by decide +kernel)).mono ?_
    rintro e w'' ⟨hc, hK⟩
    rw [firstReadN, if_neg (by decide)] at hc
    simp only [firstLine.1, firstLine.2] at hc
    exact ⟨hc.1, hK⟩
  have HVM := (show Hid _ from VM)
  have HVN := (show Hid _ from VN)
  clear VM VN
  have hpe := fun (wx : World) => placeEql ⟨#[110]⟩ 2 5 wx
  go_enter Tryz.func7, Tryz.ntmps7
  go_wp2_with fail
  refine (new_any _).mono ?_
  rintro e w1 ⟨rfl, hV1, hk1⟩
  go_wp2_with fail
  refine (vput_any w.heap.size ⟨#[109]⟩ ⟨#[36, 99, 32, 119, 32, 36, 46, 32, 36, 118, 32, 112, 32, 36, 46, 32, 119, 112, 32, 36, 102, 32, 119, 32, 112, 32, 36, 46, 10, 97, 32, 36, 97, 32, 119, 32, 112, 32, 36, 46]⟩ [] _ hV1.anyR (by decide) (by decide)).mono ?_
  rintro e w2 ⟨rfl, hV2, -, hk2⟩
  rw [firstPut1] at hV2 ⊢
  go_wp2_with fail
  refine (vput_any w.heap.size ⟨#[110]⟩ ⟨#[36, 99, 32, 119, 32, 36, 46, 10, 32, 36, 99, 32, 119, 32, 36, 46]⟩ _ _ hV2 (by decide) (by decide)).mono ?_
  rintro e w3 ⟨rfl, hV3, -, hk3⟩
  rw [firstPut2] at hV3 ⊢
  go_wp2_with fail
  refine Calls.mono (HVM.out _ _ hV3) ?_
  rintro e w4 ⟨rfl, hV4, hk4⟩
  have hx4 := hV4.lt
  have hkk : Kept [w.heap.size] w w4 := (((hk1.mono (by simp)).trans hk2).trans hk3).trans hk4
  go_wp2_with fail
  refine Calls.mono (HVN.out _ _ (hV4.kept ((Kept.refl [] _).alloc _) (by simp))) ?_
  rintro e w5 ⟨rfl, hk5⟩
  have hF5 : w5.heap[w4.heap.size]? = some (.cells #[.int .i64 0, .string ⟨#[]⟩, .int .i64 0, .int .i64 0] 41 (0, 0)) := hk5.get (heap_alloc_new _ _) (by simp; omega)
  obtain ⟨z0, z1, z2, z3⟩ := zero_cells hF5
  have hF5w := lt_of_get hF5
  have hk6 := (hkk.alloc (.cells #[.int .i64 0, .string ⟨#[]⟩, .int .i64 0, .int .i64 0] 41)).trans hk5
  go_wp2
  go_ret
  exact ⟨rfl, fresh_kept ((hk6.alloc _).alloc _)⟩

end Go.Proofs.YtcipkfhpcbddiaaGreat

/- Package metaproofkeep: judges. -/
namespace Go.Proofs.YtcipkfhpcbddiaaGreat
open Go.RowKit

def fsJ : List (ByteArray × ByteArray) := [(⟨#[109]⟩, ⟨#[36, 99, 32, 119, 32, 36, 46, 32, 36, 118, 32, 112, 32, 36, 46, 32, 119, 112, 32, 36, 102, 32, 119, 32, 112, 32, 36, 46, 10, 97, 32, 36, 97, 32, 119, 32, 112, 32, 36, 46, 10, 116, 32, 36, 112, 32, 119, 32, 112, 32, 36, 61, 32, 119, 112, 32, 97, 32, 36, 46, 32, 117, 32, 36, 112, 32, 119, 32, 112, 32, 36, 61, 32, 119, 112, 32, 36, 46, 32, 118, 32, 36, 112, 32, 119, 32, 112, 32, 36, 61, 32, 63, 32, 36, 46]⟩)]
theorem judgesPut : putF [] ⟨#[109]⟩ ⟨#[36, 99, 32, 119, 32, 36, 46, 32, 36, 118, 32, 112, 32, 36, 46, 32, 119, 112, 32, 36, 102, 32, 119, 32, 112, 32, 36, 46, 10, 97, 32, 36, 97, 32, 119, 32, 112, 32, 36, 46, 10, 116, 32, 36, 112, 32, 119, 32, 112, 32, 36, 61, 32, 119, 112, 32, 97, 32, 36, 46, 32, 117, 32, 36, 112, 32, 119, 32, 112, 32, 36, 61, 32, 119, 112, 32, 36, 46, 32, 118, 32, 36, 112, 32, 119, 32, 112, 32, 36, 61, 32, 63, 32, 36, 46]⟩ = (0, fsJ) := by decide +kernel
theorem judgesRead : (readF ⟨#[109]⟩ ⟨#[36, 99, 32, 119, 32, 36, 46, 32, 36, 118, 32, 112, 32, 36, 46, 32, 119, 112, 32, 36, 102, 32, 119, 32, 112, 32, 36, 46, 10, 97, 32, 36, 97, 32, 119, 32, 112, 32, 36, 46, 10, 116, 32, 36, 112, 32, 119, 32, 112, 32, 36, 61, 32, 119, 112, 32, 97, 32, 36, 46, 32, 117, 32, 36, 112, 32, 119, 32, 112, 32, 36, 61, 32, 119, 112, 32, 36, 46, 32, 118, 32, 36, 112, 32, 119, 32, 112, 32, 36, 61, 32, 63, 32, 36, 46]⟩ 0 emptyDb).1 = (0, 0) := by decide +kernel
theorem judgesRows : (rowsM ⟨#[36, 99, 32, 119, 32, 36, 46, 32, 36, 118, 32, 112, 32, 36, 46, 32, 119, 112, 32, 36, 102, 32, 119, 32, 112, 32, 36, 46, 10, 97, 32, 36, 97, 32, 119, 32, 112, 32, 36, 46, 10, 116, 32, 36, 112, 32, 119, 32, 112, 32, 36, 61, 32, 119, 112, 32, 97, 32, 36, 46, 32, 117, 32, 36, 112, 32, 119, 32, 112, 32, 36, 61, 32, 119, 112, 32, 36, 46, 32, 118, 32, 36, 112, 32, 119, 32, 112, 32, 36, 61, 32, 63, 32, 36, 46]⟩).map (fun r => (r.verdict, r.label.toList)) = [(1, [97]), (5, [116]), (5, [117]), (3, [118])] := by decide +kernel
theorem fsJ_ok : FilesOk fsJ := by
  rw [filesOk_all]
  intro f hf
  simp only [fsJ, List.mem_cons, List.not_mem_nil, or_false] at hf
  subst hf; decide
theorem judgesFour : ∃ a b c d, rowsM ⟨#[36, 99, 32, 119, 32, 36, 46, 32, 36, 118, 32, 112, 32, 36, 46, 32, 119, 112, 32, 36, 102, 32, 119, 32, 112, 32, 36, 46, 10, 97, 32, 36, 97, 32, 119, 32, 112, 32, 36, 46, 10, 116, 32, 36, 112, 32, 119, 32, 112, 32, 36, 61, 32, 119, 112, 32, 97, 32, 36, 46, 32, 117, 32, 36, 112, 32, 119, 32, 112, 32, 36, 61, 32, 119, 112, 32, 36, 46, 32, 118, 32, 36, 112, 32, 119, 32, 112, 32, 36, 61, 32, 63, 32, 36, 46]⟩ = [a, b, c, d] ∧ a.verdict = 1 ∧ b.verdict = 5 ∧ c.verdict = 5 ∧ d.verdict = 3 ∧ (b.label.toList == [116]) = true := by
  have h := judgesRows
  generalize rowsM ⟨#[36, 99, 32, 119, 32, 36, 46, 32, 36, 118, 32, 112, 32, 36, 46, 32, 119, 112, 32, 36, 102, 32, 119, 32, 112, 32, 36, 46, 10, 97, 32, 36, 97, 32, 119, 32, 112, 32, 36, 46, 10, 116, 32, 36, 112, 32, 119, 32, 112, 32, 36, 61, 32, 119, 112, 32, 97, 32, 36, 46, 32, 117, 32, 36, 112, 32, 119, 32, 112, 32, 36, 61, 32, 119, 112, 32, 36, 46, 32, 118, 32, 36, 112, 32, 119, 32, 112, 32, 36, 61, 32, 63, 32, 36, 46]⟩ = L at h
  have hl : L.length = 4 := by have := congrArg List.length h; simpa using this
  match L, hl, h with
  | [a, b, c, d], _, h =>
    simp only [List.map_cons, List.map_nil, List.cons.injEq, Prod.mk.injEq, and_true] at h
    obtain ⟨⟨h1, -⟩, ⟨h2, h3⟩, ⟨h4, -⟩, h5, -⟩ := h
    exact ⟨a, b, c, d, rfl, h1, h2, h4, h5, by rw [h3]; rfl⟩

set_option maxHeartbeats 1000000 in
set_option maxRecDepth 100000 in
theorem judges_any (w : World) : Calls Tryz.prog 11 #[] w fun e w' => e = .returned (.bool true) ∧ Kept [] w w' := by
  have VM : ∀ (w' : World) (x : Nat), SomeAt w' x fsJ → Calls Tryz.prog 15 #[.pointer (some ⟨x, 0, none⟩), .string ⟨#[109]⟩] w' fun e w'' => e = .returned (.tuple #[.agg #[.int .i64 0, .string ⟨#[]⟩, .int .i64 0, .int .i64 0], .int .i64 0]) ∧ (∃ H g, RptAt w'' x fsJ (rdM ⟨#[36, 99, 32, 119, 32, 36, 46, 32, 36, 118, 32, 112, 32, 36, 46, 32, 119, 112, 32, 36, 102, 32, 119, 32, 112, 32, 36, 46, 10, 97, 32, 36, 97, 32, 119, 32, 112, 32, 36, 46, 10, 116, 32, 36, 112, 32, 119, 32, 112, 32, 36, 61, 32, 119, 112, 32, 97, 32, 36, 46, 32, 117, 32, 36, 112, 32, 119, 32, 112, 32, 36, 61, 32, 119, 112, 32, 36, 46, 32, 118, 32, 36, 112, 32, 119, 32, 112, 32, 36, 61, 32, 63, 32, 36, 46]⟩).2.sts H g) ∧ Kept [x] w' w'' := by
    intro w' x h
    refine (verify_gen x 0 fsJ ⟨#[109]⟩ ⟨#[36, 99, 32, 119, 32, 36, 46, 32, 36, 118, 32, 112, 32, 36, 46, 32, 119, 112, 32, 36, 102, 32, 119, 32, 112, 32, 36, 46, 10, 97, 32, 36, 97, 32, 119, 32, 112, 32, 36, 46, 10, 116, 32, 36, 112, 32, 119, 32, 112, 32, 36, 61, 32, 119, 112, 32, 97, 32, 36, 46, 32, 117, 32, 36, 112, 32, 119, 32, 112, 32, 36, 61, 32, 119, 112, 32, 36, 46, 32, 118, 32, 36, 112, 32, 119, 32, 112, 32, 36, 61, 32, 63, 32, 36, 46]⟩ w' h (by decide +kernel) (by decide) (by decide) rfl rfl fsJ_ok (by decide +kernel)).mono ?_
    rintro e w'' ⟨hc, hK⟩
    rw [judgesRead, if_pos (by rfl)] at hc
    obtain ⟨h1, H, g, h2, -⟩ := hc
    exact ⟨h1, ⟨H, g, h2⟩, hK⟩
  have HVM := (show Hid _ from VM)
  clear VM
  have HG := (show Hid _ from rdM_rec ⟨#[36, 99, 32, 119, 32, 36, 46, 32, 36, 118, 32, 112, 32, 36, 46, 32, 119, 112, 32, 36, 102, 32, 119, 32, 112, 32, 36, 46, 10, 97, 32, 36, 97, 32, 119, 32, 112, 32, 36, 46, 10, 116, 32, 36, 112, 32, 119, 32, 112, 32, 36, 61, 32, 119, 112, 32, 97, 32, 36, 46, 32, 117, 32, 36, 112, 32, 119, 32, 112, 32, 36, 61, 32, 119, 112, 32, 36, 46, 32, 118, 32, 36, 112, 32, 119, 32, 112, 32, 36, 61, 32, 63, 32, 36, 46]⟩ (by decide) (by decide +kernel))
  go_enter Tryz.func11, Tryz.ntmps11
  go_wp2_with fail
  refine (new_any _).mono ?_
  rintro e w1 ⟨rfl, hV1, hk1⟩
  go_wp2_with fail
  refine (vput_any w.heap.size ⟨#[109]⟩ ⟨#[36, 99, 32, 119, 32, 36, 46, 32, 36, 118, 32, 112, 32, 36, 46, 32, 119, 112, 32, 36, 102, 32, 119, 32, 112, 32, 36, 46, 10, 97, 32, 36, 97, 32, 119, 32, 112, 32, 36, 46, 10, 116, 32, 36, 112, 32, 119, 32, 112, 32, 36, 61, 32, 119, 112, 32, 97, 32, 36, 46, 32, 117, 32, 36, 112, 32, 119, 32, 112, 32, 36, 61, 32, 119, 112, 32, 36, 46, 32, 118, 32, 36, 112, 32, 119, 32, 112, 32, 36, 61, 32, 63, 32, 36, 46]⟩ [] _ hV1.anyR (by decide) (by decide)).mono ?_
  rintro e w2 ⟨rfl, hV2, -, hk2⟩
  rw [judgesPut] at hV2 ⊢
  go_wp2_with fail
  refine Calls.mono (HVM.out _ _ hV2) ?_
  rintro e w4 ⟨rfl, ⟨H, g, hV4⟩, hk4⟩
  have hkk : Kept [w.heap.size] w w4 := ((hk1.mono (by simp)).trans hk2).trans hk4
  go_wp2_with fail
  refine (vrows_any w.heap.size fsJ _ H g _ hV4 HG.out.ok.len).mono ?_
  rintro e w5 ⟨ob, rfl, hO5, -, hk5⟩
  obtain ⟨ra, rb, rc, rd, hL, v1, v2, v3, v4, v5⟩ := judgesFour
  have er : rowsF (rdM ⟨#[36, 99, 32, 119, 32, 36, 46, 32, 36, 118, 32, 112, 32, 36, 46, 32, 119, 112, 32, 36, 102, 32, 119, 32, 112, 32, 36, 46, 10, 97, 32, 36, 97, 32, 119, 32, 112, 32, 36, 46, 10, 116, 32, 36, 112, 32, 119, 32, 112, 32, 36, 61, 32, 119, 112, 32, 97, 32, 36, 46, 32, 117, 32, 36, 112, 32, 119, 32, 112, 32, 36, 61, 32, 119, 112, 32, 36, 46, 32, 118, 32, 36, 112, 32, 119, 32, 112, 32, 36, 61, 32, 63, 32, 36, 46]⟩).2.sts = [ra, rb, rc, rd] := hL
  rw [er] at hO5 ⊢
  cases ob with
  | none => exact absurd (show [ra, rb, rc, rd] = [] from hO5) (by simp)
  | some g5 =>
    have c0 := (rw_at hO5.2 (fun j v hj => by simpa using hj) 0 (by simp)).2.1
    have c1 := (rw_at hO5.2 (fun j v hj => by simpa using hj) 1 (by simp)).2.1
    have c2 := (rw_at hO5.2 (fun j v hj => by simpa using hj) 2 (by simp)).2.1
    have c3 := (rw_at hO5.2 (fun j v hj => by simpa using hj) 3 (by simp)).2.1
    have c4 := (rw_at hO5.2 (fun j v hj => by simpa using hj) 1 (by simp)).1
    simp only [List.getElem_cons_zero, List.getElem_cons_succ, v1, v2, v3, v4, Nat.zero_mul, Nat.zero_add, Nat.one_mul, Nat.reduceMul, Nat.reduceAdd] at c0 c1 c2 c3 c4
    simp only [rowsSl, List.length_cons, List.length_nil, Nat.zero_add, Nat.reduceAdd]
    clear hL er hO5
    go_wp2
    go_ret
    exact ⟨rfl, fresh_kept (hkk.trans (hk5.mono (by simp)))⟩

end Go.Proofs.YtcipkfhpcbddiaaGreat

/- The statement on Taken. -/
namespace Go.Proofs.YtcipkfhpcbddiaaGreat
open Go.RowKit

set_option maxHeartbeats 1000000 in
set_option maxRecDepth 100000 in
theorem taken_none (b x : Nat) (T : ByteArray) (o : Option Nat) (a : Int) (w : World) (hW : WorldAt w b x T o) (h0 : (rowsM T).length = 0) :
    Calls Tryz.prog 12 #[.pointer (some ⟨b, 0, none⟩), .int .i64 a] w fun e w' => e = .returned (.bool true) ∧ w' = w := by
  have hbw := hW.lt
  obtain ⟨c0, c1, c2⟩ := hW.cells
  rw [sl_eq hW.rows, h0] at c2
  obtain ⟨AO, HAO⟩ : ∃ AO, Hid (adrO o = AO) := ⟨_, rfl⟩
  rw [HAO.out] at c2
  clear h0
  go_enter Tryz.func12, Tryz.ntmps12
  go_wp2
  go_ret
  exact ⟨rfl, rfl⟩

theorem taken_any (b x : Nat) (T : ByteArray) (o : Option Nat) (a : Int) (w : World) (hW : WorldAt w b x T o) (hx : x ≠ b) (hT : Fine T) (ha : -9223372036854775808 ≤ a ∧ a ≤ 9223372036854775807) (hRp : rowsM T = [] ∨ RepFor w x (b + 1) 0 T) :
    Calls Tryz.prog 12 #[.pointer (some ⟨b, 0, none⟩), .int .i64 a] w fun e w' => e = .returned (.bool true) ∧ Kept [x] w w' := by
  by_cases h0 : (rowsM T).length = 0
  · exact (taken_none b x T o a w hW h0).mono (fun e w' h => ⟨h.1, by rw [h.2]; exact Kept.refl _ _⟩)
  · rcases hRp with h | ⟨fs, H, g, hR, _, _, hM⟩
    · rw [h] at h0; simp at h0
    · have hrw := hW.rows
      cases ho : o with
      | none =>
        rw [ho] at hrw
        have he : rowsM T = [] := hrw
        rw [he] at h0; simp at h0
      | some gr =>
        subst ho
        exact taken_some b x (rowsM T).length T (some gr) a fs H g gr w hW hx hT ha hR hM rfl rfl (by omega)

set_option maxHeartbeats 1000000 in
set_option maxRecDepth 100000 in
theorem taken_all : TakenWalk := by
  intro ao cap l a w hl hls ha1 ha2 hc
  have HSM := (show Hid _ from smallish ao cap l w hl hls hc)
  go_enter Tryz.func5, Tryz.ntmps5
  go_wp2_with fail
  refine Calls.mono HSM.out ?_
  rintro e w1 ⟨⟨r, rfl, hr⟩, hw1⟩
  subst hw1
  cases r
  · go_wp2
    go_ret
    exact ⟨rfl, Below.refl _ _⟩
  · obtain ⟨hl1, hl2⟩ := hr rfl
    go_wp2_with fail
    refine (judges_any _).mono ?_
    rintro e w0 ⟨rfl, hk0⟩
    have hc0 : l.length = 0 ∨ ∃ b off, ao = some ⟨b, off, none⟩ ∧ ChunksAt w0 b off l := by
      rcases hc with h0 | ⟨b, off, he, hcc⟩
      · exact Or.inl h0
      · exact Or.inr ⟨b, off, he, hcc.kept hk0 (by simp)⟩
    have hz0 := hk0.size
    go_wp2_with fail
    refine (grown_anyR ao cap l _ hl1 hl2 hc0).mono ?_
    rintro e w2 ⟨b, x, rfl, ⟨la, lb, lc, ⟨T, o, hW, hT, hRp⟩, -⟩, hk2⟩
    have HRp := (show Hid _ from hRp)
    clear hRp
    go_wp2_with fail
    refine (taken_any b x T o a _ hW lc hT ⟨ha1, ha2⟩ HRp.out).mono ?_
    rintro e w4 ⟨rfl, hk4⟩
    go_wp2
    go_ret
    refine ⟨rfl, ?_⟩
    have hk : Kept [x] w1 w4 := ((hk0.trans hk2).mono (by simp)).trans hk4
    exact ⟨hk.os, hk.tape, hk.output, hk.size, fun k hk' => hk.block k hk' (by simp; omega)⟩

theorem taken_holds : Rows.TakenSaid := takenOver taken_all

end Go.Proofs.YtcipkfhpcbddiaaGreat
