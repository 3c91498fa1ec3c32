import Derived.Test.YtcipkfhpcbddiaaGreatQFirst
/- Package metaproofkeep: judges. -/
namespace Go.Proofs.YtcipkfhpcbddiaaGreat
open Go.RowKit

def fsJ : List (ByteArray × ByteArray) := [(⟨#[109]⟩, ⟨#[36, 99, 32, 119, 32, 36, 46, 32, 36, 118, 32, 112, 32, 36, 46, 32, 119, 112, 32, 36, 102, 32, 119, 32, 112, 32, 36, 46, 10, 97, 32, 36, 97, 32, 119, 32, 112, 32, 36, 46, 10, 116, 32, 36, 112, 32, 119, 32, 112, 32, 36, 61, 32, 119, 112, 32, 97, 32, 36, 46, 32, 117, 32, 36, 112, 32, 119, 32, 112, 32, 36, 61, 32, 119, 112, 32, 36, 46, 32, 118, 32, 36, 112, 32, 119, 32, 112, 32, 36, 61, 32, 63, 32, 36, 46]⟩)]
theorem judgesPut : putF [] ⟨#[109]⟩ ⟨#[36, 99, 32, 119, 32, 36, 46, 32, 36, 118, 32, 112, 32, 36, 46, 32, 119, 112, 32, 36, 102, 32, 119, 32, 112, 32, 36, 46, 10, 97, 32, 36, 97, 32, 119, 32, 112, 32, 36, 46, 10, 116, 32, 36, 112, 32, 119, 32, 112, 32, 36, 61, 32, 119, 112, 32, 97, 32, 36, 46, 32, 117, 32, 36, 112, 32, 119, 32, 112, 32, 36, 61, 32, 119, 112, 32, 36, 46, 32, 118, 32, 36, 112, 32, 119, 32, 112, 32, 36, 61, 32, 63, 32, 36, 46]⟩ = (0, fsJ) := by decide +kernel
theorem judgesRead : (readF ⟨#[109]⟩ ⟨#[36, 99, 32, 119, 32, 36, 46, 32, 36, 118, 32, 112, 32, 36, 46, 32, 119, 112, 32, 36, 102, 32, 119, 32, 112, 32, 36, 46, 10, 97, 32, 36, 97, 32, 119, 32, 112, 32, 36, 46, 10, 116, 32, 36, 112, 32, 119, 32, 112, 32, 36, 61, 32, 119, 112, 32, 97, 32, 36, 46, 32, 117, 32, 36, 112, 32, 119, 32, 112, 32, 36, 61, 32, 119, 112, 32, 36, 46, 32, 118, 32, 36, 112, 32, 119, 32, 112, 32, 36, 61, 32, 63, 32, 36, 46]⟩ 0 emptyDb).1 = (0, 0) := by decide +kernel
theorem judgesRows : (rowsM ⟨#[36, 99, 32, 119, 32, 36, 46, 32, 36, 118, 32, 112, 32, 36, 46, 32, 119, 112, 32, 36, 102, 32, 119, 32, 112, 32, 36, 46, 10, 97, 32, 36, 97, 32, 119, 32, 112, 32, 36, 46, 10, 116, 32, 36, 112, 32, 119, 32, 112, 32, 36, 61, 32, 119, 112, 32, 97, 32, 36, 46, 32, 117, 32, 36, 112, 32, 119, 32, 112, 32, 36, 61, 32, 119, 112, 32, 36, 46, 32, 118, 32, 36, 112, 32, 119, 32, 112, 32, 36, 61, 32, 63, 32, 36, 46]⟩).map (fun r => (r.verdict, r.label.toList)) = [(1, [97]), (5, [116]), (5, [117]), (3, [118])] := by decide +kernel
theorem fsJ_ok : FilesOk fsJ := by
  rw [filesOk_all]
  intro f hf
  simp only [fsJ, List.mem_cons, List.not_mem_nil, or_false] at hf
  subst hf; decide
theorem judgesFour : ∃ a b c d, rowsM ⟨#[36, 99, 32, 119, 32, 36, 46, 32, 36, 118, 32, 112, 32, 36, 46, 32, 119, 112, 32, 36, 102, 32, 119, 32, 112, 32, 36, 46, 10, 97, 32, 36, 97, 32, 119, 32, 112, 32, 36, 46, 10, 116, 32, 36, 112, 32, 119, 32, 112, 32, 36, 61, 32, 119, 112, 32, 97, 32, 36, 46, 32, 117, 32, 36, 112, 32, 119, 32, 112, 32, 36, 61, 32, 119, 112, 32, 36, 46, 32, 118, 32, 36, 112, 32, 119, 32, 112, 32, 36, 61, 32, 63, 32, 36, 46]⟩ = [a, b, c, d] ∧ a.verdict = 1 ∧ b.verdict = 5 ∧ c.verdict = 5 ∧ d.verdict = 3 ∧ (b.label.toList == [116]) = true := by
  have h := judgesRows
  generalize rowsM ⟨#[36, 99, 32, 119, 32, 36, 46, 32, 36, 118, 32, 112, 32, 36, 46, 32, 119, 112, 32, 36, 102, 32, 119, 32, 112, 32, 36, 46, 10, 97, 32, 36, 97, 32, 119, 32, 112, 32, 36, 46, 10, 116, 32, 36, 112, 32, 119, 32, 112, 32, 36, 61, 32, 119, 112, 32, 97, 32, 36, 46, 32, 117, 32, 36, 112, 32, 119, 32, 112, 32, 36, 61, 32, 119, 112, 32, 36, 46, 32, 118, 32, 36, 112, 32, 119, 32, 112, 32, 36, 61, 32, 63, 32, 36, 46]⟩ = L at h
  have hl : L.length = 4 := by have := congrArg List.length h; simpa using this
  match L, hl, h with
  | [a, b, c, d], _, h =>
    simp only [List.map_cons, List.map_nil, List.cons.injEq, Prod.mk.injEq, and_true] at h
    obtain ⟨⟨h1, -⟩, ⟨h2, h3⟩, ⟨h4, -⟩, h5, -⟩ := h
    exact ⟨a, b, c, d, rfl, h1, h2, h4, h5, by rw [h3]; rfl⟩

set_option maxHeartbeats 1000000 in
set_option maxRecDepth 100000 in
theorem judges_any (w : World) : Calls Tryz.prog 11 #[] w fun e w' => e = .returned (.bool true) ∧ Kept [] w w' := by
  have VM : ∀ (w' : World) (x : Nat), SomeAt w' x fsJ → Calls Tryz.prog 15 #[.pointer (some ⟨x, 0, none⟩), .string ⟨#[109]⟩] w' fun e w'' => e = .returned (.tuple #[.agg #[.int .i64 0, .string ⟨#[]⟩, .int .i64 0, .int .i64 0], .int .i64 0]) ∧ (∃ H g, RptAt w'' x fsJ (rdM ⟨#[36, 99, 32, 119, 32, 36, 46, 32, 36, 118, 32, 112, 32, 36, 46, 32, 119, 112, 32, 36, 102, 32, 119, 32, 112, 32, 36, 46, 10, 97, 32, 36, 97, 32, 119, 32, 112, 32, 36, 46, 10, 116, 32, 36, 112, 32, 119, 32, 112, 32, 36, 61, 32, 119, 112, 32, 97, 32, 36, 46, 32, 117, 32, 36, 112, 32, 119, 32, 112, 32, 36, 61, 32, 119, 112, 32, 36, 46, 32, 118, 32, 36, 112, 32, 119, 32, 112, 32, 36, 61, 32, 63, 32, 36, 46]⟩).2.sts H g) ∧ Kept [x] w' w'' := by
    intro w' x h
    refine (verify_gen x 0 fsJ ⟨#[109]⟩ ⟨#[36, 99, 32, 119, 32, 36, 46, 32, 36, 118, 32, 112, 32, 36, 46, 32, 119, 112, 32, 36, 102, 32, 119, 32, 112, 32, 36, 46, 10, 97, 32, 36, 97, 32, 119, 32, 112, 32, 36, 46, 10, 116, 32, 36, 112, 32, 119, 32, 112, 32, 36, 61, 32, 119, 112, 32, 97, 32, 36, 46, 32, 117, 32, 36, 112, 32, 119, 32, 112, 32, 36, 61, 32, 119, 112, 32, 36, 46, 32, 118, 32, 36, 112, 32, 119, 32, 112, 32, 36, 61, 32, 63, 32, 36, 46]⟩ w' h (by decide +kernel) (by decide) (by decide) rfl rfl fsJ_ok (by decide +kernel)).mono ?_
    rintro e w'' ⟨hc, hK⟩
    rw [judgesRead, if_pos (by rfl)] at hc
    obtain ⟨h1, H, g, h2, -⟩ := hc
    exact ⟨h1, ⟨H, g, h2⟩, hK⟩
  have HVM := (show Hid _ from VM)
  clear VM
  have HG := (show Hid _ from rdM_rec ⟨#[36, 99, 32, 119, 32, 36, 46, 32, 36, 118, 32, 112, 32, 36, 46, 32, 119, 112, 32, 36, 102, 32, 119, 32, 112, 32, 36, 46, 10, 97, 32, 36, 97, 32, 119, 32, 112, 32, 36, 46, 10, 116, 32, 36, 112, 32, 119, 32, 112, 32, 36, 61, 32, 119, 112, 32, 97, 32, 36, 46, 32, 117, 32, 36, 112, 32, 119, 32, 112, 32, 36, 61, 32, 119, 112, 32, 36, 46, 32, 118, 32, 36, 112, 32, 119, 32, 112, 32, 36, 61, 32, 63, 32, 36, 46]⟩ (by decide) (by decide +kernel))
  go_enter Tryz.func11, Tryz.ntmps11
  go_wp2_with fail
  refine (new_any _).mono ?_
  rintro e w1 ⟨rfl, hV1, hk1⟩
  go_wp2_with fail
  refine (vput_any w.heap.size ⟨#[109]⟩ ⟨#[36, 99, 32, 119, 32, 36, 46, 32, 36, 118, 32, 112, 32, 36, 46, 32, 119, 112, 32, 36, 102, 32, 119, 32, 112, 32, 36, 46, 10, 97, 32, 36, 97, 32, 119, 32, 112, 32, 36, 46, 10, 116, 32, 36, 112, 32, 119, 32, 112, 32, 36, 61, 32, 119, 112, 32, 97, 32, 36, 46, 32, 117, 32, 36, 112, 32, 119, 32, 112, 32, 36, 61, 32, 119, 112, 32, 36, 46, 32, 118, 32, 36, 112, 32, 119, 32, 112, 32, 36, 61, 32, 63, 32, 36, 46]⟩ [] _ hV1.anyR (by decide) (by decide)).mono ?_
  rintro e w2 ⟨rfl, hV2, -, hk2⟩
  rw [judgesPut] at hV2 ⊢
  go_wp2_with fail
  refine Calls.mono (HVM.out _ _ hV2) ?_
  rintro e w4 ⟨rfl, ⟨H, g, hV4⟩, hk4⟩
  have hkk : Kept [w.heap.size] w w4 := ((hk1.mono (by simp)).trans hk2).trans hk4
  go_wp2_with fail
  refine (vrows_any w.heap.size fsJ _ H g _ hV4 HG.out.ok.len).mono ?_
  rintro e w5 ⟨ob, rfl, hO5, -, hk5⟩
  obtain ⟨ra, rb, rc, rd, hL, v1, v2, v3, v4, v5⟩ := judgesFour
  have er : rowsF (rdM ⟨#[36, 99, 32, 119, 32, 36, 46, 32, 36, 118, 32, 112, 32, 36, 46, 32, 119, 112, 32, 36, 102, 32, 119, 32, 112, 32, 36, 46, 10, 97, 32, 36, 97, 32, 119, 32, 112, 32, 36, 46, 10, 116, 32, 36, 112, 32, 119, 32, 112, 32, 36, 61, 32, 119, 112, 32, 97, 32, 36, 46, 32, 117, 32, 36, 112, 32, 119, 32, 112, 32, 36, 61, 32, 119, 112, 32, 36, 46, 32, 118, 32, 36, 112, 32, 119, 32, 112, 32, 36, 61, 32, 63, 32, 36, 46]⟩).2.sts = [ra, rb, rc, rd] := hL
  rw [er] at hO5 ⊢
  cases ob with
  | none => exact absurd (show [ra, rb, rc, rd] = [] from hO5) (by simp)
  | some g5 =>
    have c0 := (rw_at hO5.2 (fun j v hj => by simpa using hj) 0 (by simp)).2.1
    have c1 := (rw_at hO5.2 (fun j v hj => by simpa using hj) 1 (by simp)).2.1
    have c2 := (rw_at hO5.2 (fun j v hj => by simpa using hj) 2 (by simp)).2.1
    have c3 := (rw_at hO5.2 (fun j v hj => by simpa using hj) 3 (by simp)).2.1
    have c4 := (rw_at hO5.2 (fun j v hj => by simpa using hj) 1 (by simp)).1
    simp only [List.getElem_cons_zero, List.getElem_cons_succ, v1, v2, v3, v4, Nat.zero_mul, Nat.zero_add, Nat.one_mul, Nat.reduceMul, Nat.reduceAdd] at c0 c1 c2 c3 c4
    simp only [rowsSl, List.length_cons, List.length_nil, Nat.zero_add, Nat.reduceAdd]
    clear hL er hO5
    go_wp2
    go_ret
    exact ⟨rfl, fresh_kept (hkk.trans (hk5.mono (by simp)))⟩

end Go.Proofs.YtcipkfhpcbddiaaGreat
