/- The statement on Placed: the walk, and the row round it. -/
import Derived.Test.YtkblmflajfomaaaBesideRow
import Derived.Test.YtkblmflajfomaaaKeep8
namespace Go.Proofs.Ytkblmflajfomaaa
open Go.ChangeShapes Go.WideShapes Go.ChangeAt Go.RowKit
open Go.ChangeMaps (open_string shut_string)

set_option maxHeartbeats 1000000 in
set_option maxRecDepth 100000 in
theorem placed_all (X : Texts) (ao : Option Addr) (cap : Nat) (l : List ByteArray) (a : Int) (w : World) (hl : l.length ≤ 140737488351232) (hls : ∀ x, x ∈ l → x.size ≤ 140737488351232) (ha : -9223372036854775808 ≤ a ∧ a ≤ 9223372036854775807)
    (hc : l.length = 0 ∨ ∃ b off, ao = some ⟨b, off, none⟩ ∧ ChunksAt w b off l) :
    Calls Try.prog 4 #[.slice ao l.length cap, .int .i64 a] w fun e w' => e = .returned (.bool true) ∧ Below w.heap.size w w' := by
  have HSM := (show Hid _ from smallish ao cap l w hl hls hc)
  go_enter Try.func4, Try.ntmps4
  go_wp2_with fail
  refine Calls.mono HSM.out ?_
  rintro e w1 ⟨⟨r, rfl, hr⟩, hw1⟩
  subst hw1
  cases r
  · go_wp2
    go_ret
    exact ⟨rfl, Below.refl _ _⟩
  · obtain ⟨hl1, hl2⟩ := hr rfl
    go_wp2_with fail
    refine (grown_any X ao cap l _ hl1 hl2 hc).mono ?_
    rintro e w2 ⟨b, x, rfl, ⟨la, lb, lc, ⟨T, hW, hT⟩, ⟨fs, r, hV, hM⟩⟩, hk2⟩
    go_wp2_with fail
    refine (placed_any X b x T a fs r _ hW hV lc hM hT ha).mono ?_
    rintro e w4 ⟨rfl, hk4⟩
    go_wp2
    go_ret
    refine ⟨rfl, ?_⟩
    have hk : Kept [x] w1 w4 := (hk2.mono (by simp)).trans hk4
    exact ⟨hk.os, hk.tape, hk.output, hk.size, fun k hk' => hk.block k hk' (by simp; omega)⟩

/-! ### The row's step -/
set_option maxRecDepth 100000 in
theorem placedLifted (X : Texts) (os : Os) (started : os.Started) (H : Type) (enc : TypeId × Value → H) :
    ReturnsInHanded {} Try.checked os 4 .any (Rows.placedSpec.pre6 enc Try.prog Try.f4 Rows.placedRow.domain false) (Rows.placedSpec.post enc Try.prog Try.f4 false true false false) := by
  refine returnsInHanded_of_change_sized (C := Try.checked) own started (by kernel_rfl) Try.func4
    (ChangeSpec.witness6 (enc := enc) (C := Try.checked) false ⟨#[], #[.slice none 0 0, .int .i64 0], []⟩ 8 (by kernel_rfl) (by kernel_rfl) (by kernel_rfl) (by kernel_rfl)) ?_
  intro W base args ds gs before hval0 hW _ hsz0 _
  have hsz : (DataW.weightsEach Try.prog (Try.f4.params.toList ++ Rows.placedSpec.plain.varTypes Try.prog) (ds ++ gs)).all (· ≤ reachBytes) = true := hsz0
  have hval : ∀ (j : Nat) t v, Try.f4.params[j]? = some t → args[j]? = some v → Value.okWide Try.prog W .any base t v := hval0
  have hW' := hW
  obtain ⟨p, q, hA0, hV, rfl, hfz, hnd⟩ := hW
  have hA : DataW.TrodAll enc Try.prog W 0 (fun _ => true) true Try.f4.params.toList args.toList ds p := hA0
  rw [Try.params4] at hA hval hsz
  obtain ⟨v0, v1, d0, d1, p0, p1, rfl, rfl, rfl, h0, h1⟩ := trodAll_two hA
  obtain ⟨rfl, rfl⟩ := trodVars_none hV
  obtain ⟨a0, len0, cap0, rfl⟩ := okWide_slice Try.underlying22 (hval 0 22 v0 rfl rfl)
  have k0 := h0
  have lt0 : ∀ x ∈ p0, x.block < W.heap.size := by obtain ⟨m, hm⟩ := k0; exact DataW.trod_lt m _ _ _ hm
  obtain ⟨l, hl, hl1, hl2, hl3⟩ := chunks_in h0 hsz rfl rfl
  obtain ⟨n1, rfl, rfl, rfl, hn1⟩ := open_int Try.underlying3 (hval 1 3 v1 rfl rfl) h1
  subst hl
  clear hA0 hval0
  refine (placed_all X a0 cap0 l n1 W (by omega) hl2 (bounds_i64 hn1) hl3).mono fun e W' ⟨he, bel⟩ => ?_
  subst he
  exact ⟨_, rfl, _, _, _, [], _, [], hW', trodAll_mk1 (shut_bool Try.underlying4 _), trodAll_mk2 (Below.trod laidOut (by kernel_rfl) (of_decide_eq_true (by kernel_rfl)) k0 bel lt0) (shut_int Try.underlying3 hn1), rfl, bel.frame _, fun h => by cases h⟩

theorem placedOver (X : Texts) : Rows.placedRow.holds Try.pinned (OpenSpec.ofChange Rows.placedSpec) :=
  OpenClaim.holds_of_wide 4 Try.f4 rfl rfl rfl rfl rfl rfl rfl ⟨rfl, rfl, rfl, rfl, rfl⟩ rfl rfl rfl rfl rfl (by kernel_rfl) Try.func4 (by kernel_rfl)
    (of_decide_eq_true (by kernel_rfl)) (by unfold Func.isWrapper; first | (rw [if_pos (by decide +kernel)]; kernel_rfl) | (rw [if_neg (by decide +kernel)]; exact ⟨rfl, rfl⟩))
    (fun os started H enc _ => placedLifted X os started H enc)

theorem placed_holds : Rows.PlacedSaid := placedOver texts

end Go.Proofs.Ytkblmflajfomaaa
