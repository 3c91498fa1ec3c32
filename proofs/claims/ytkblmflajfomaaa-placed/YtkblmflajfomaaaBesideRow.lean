/- The statement on Beside: the row round the walk. -/
import Derived.Test.YtkblmflajfomaaaRows
import Derived.Test.YtkblmflajfomaaaKeep4
import Derived.ProofKit
import Derived.OpenShut
import Derived.ShutString
import Derived.ChangeOld
import Derived.Below
import Derived.SizedLaws
import Derived.SliceStrings
namespace Go.Proofs.Ytkblmflajfomaaa
open Go.ChangeShapes Go.WideShapes Go.ChangeAt Go.RowKit
open Go.ChangeMaps (open_string shut_string)

theorem own : ownKnob Try.prog.godebug = none := by kernel_rfl
theorem laidOut : laidOutB Try.prog = true := by kernel_rfl
theorem bytesS : Try.prog.bytesOf 9 = 16 := by kernel_rfl

theorem weights_strs {H : Type} (P : Program) (e : TypeId) (f : ByteArray → DataW H) (hf : ∀ s, f s = .lit (.string s.data.toList)) (l : List ByteArray) (s : ByteArray) (hs : s ∈ l) : s.data.toList.length ∈ DataW.weightsAll P e (l.map f) := by
  induction l with
  | nil => simp at hs
  | cons a r ih =>
    rw [List.map_cons, DataW.weightsAll, List.mem_append]
    rcases List.mem_cons.1 hs with rfl | h
    · left; rw [hf, DataW.weights]; simp
    · right; exact ih h

/-- What the walk is told of the chunks that came in. -/
theorem chunks_in {H : Type} {enc : TypeId × Value → H} {W : World} {a0 : Option Addr} {len0 cap0 : Nat} {d0 : DataW H} {p0 : List MemPlace} {TS : List TypeId} {DS : List (DataW H)}
    (h0 : DataW.Trod enc Try.prog W 0 (fun _ => true) true 22 (.slice a0 len0 cap0) d0 p0)
    (hsz : (DataW.weightsEach Try.prog TS DS).all (· ≤ reachBytes) = true) (hT : TS[0]? = some 22) (hD : DS[0]? = some d0) :
    ∃ l : List ByteArray, l.length = len0 ∧ len0 ≤ 140737488351232 ∧ (∀ x, x ∈ l → x.size ≤ 140737488351232) ∧ (l.length = 0 ∨ ∃ b off, a0 = some ⟨b, off, none⟩ ∧ ChunksAt W b off l) := by
  have lt0 : ∀ x ∈ p0, x.block < W.heap.size := by obtain ⟨m, hm⟩ := h0; exact DataW.trod_lt m _ _ _ hm
  obtain ⟨fuel, hf⟩ := h0
  rcases open_strings Try.underlying22 Try.underlying9 (by kernel_rfl) hf with ⟨hcs, _⟩ | ⟨x, l, c, ss, hcs, _, hl, hm, hz, hx, hcell, hws⟩
  · simp [Value.cells] at hcs
    obtain ⟨rfl, rfl, rfl⟩ := hcs
    exact ⟨[], rfl, by omega, by simp, Or.inl rfl⟩
  · simp [Value.cells] at hcs
    obtain ⟨rfl, rfl, rfl⟩ := hcs
    simp at hz
    have hsl : (ss.take len0).length = len0 := by simp; omega
    simp only [Prod.mk.injEq] at hx
    obtain ⟨rfl, -⟩ := hx
    have hw1 := sized_slice hsz (j := 0) hT hD Try.underlying22
    rw [bytesS] at hw1
    simp only [ChangeShapes.strs, List.length_map, List.length_take, List.length_drop, reachBytes] at hw1
    refine ⟨ss.take len0, hsl, by omega, ?_, ?_⟩
    · intro y hy
      have hm1 : y.data.toList.length ∈ DataW.weights Try.prog 22 (.slice (ChangeShapes.strs (ss.take len0)) (ChangeShapes.strs (ss.drop len0)) : DataW H) := by
        simp only [DataW.weights, Try.underlying22]
        exact List.mem_cons_of_mem _ (List.mem_append_left _ (weights_strs Try.prog 9 _ (fun _ => rfl) _ y hy))
      have := List.all_eq_true.1 hsz _ (DataW.weights_mem_each (j := 0) hT hD _ hm1)
      have this2 : y.data.toList.length ≤ reachBytes := by simpa using this
      simp only [reachBytes] at this2
      exact this2
    · by_cases h0 : len0 = 0
      · left; rw [hsl]; exact h0
      · right
        obtain ⟨b, off, spot⟩ := x
        have hc0 := hcell 0 (by omega)
        have hspot : spot = none := by simpa [Addr.add] using World.cell?_spot hc0
        subst hspot
        refine ⟨b, off, rfl, ?_, ?_⟩
        · have : W.cell? ⟨b, off, none⟩ = some (.string (ss.getD 0 ByteArray.empty)) := by simpa [Addr.add] using hc0
          unfold World.cell? at this
          split at this
          · next hh => exact lt_of_get hh
          · cases this
        · intro i hi
          have hi' : i < len0 := by rw [hsl] at hi; exact hi
          have := hcell i (by omega)
          have ea : (⟨b, off, none⟩ : Addr).add i = ⟨b, off + i, none⟩ := by
            simp only [Addr.add]
            split
            · next h => subst h; rfl
            · rfl
          rw [ea] at this
          rw [this, List.getElem_take, List.getD_eq_getElem?_getD, List.getElem?_eq_getElem (by omega)]
          rfl

/-! ### The row's step -/
set_option maxRecDepth 100000 in
theorem besideLifted (X : Texts) (os : Os) (started : os.Started) (H : Type) (enc : TypeId × Value → H) :
    ReturnsInHanded {} Try.checked os 5 .any (Rows.besideSpec.pre6 enc Try.prog Try.f5 Rows.besideRow.domain false) (Rows.besideSpec.post enc Try.prog Try.f5 false true false false) := by
  refine returnsInHanded_of_change_sized (C := Try.checked) own started (by kernel_rfl) Try.func5
    (ChangeSpec.witness6 (enc := enc) (C := Try.checked) false ⟨#[], #[.slice none 0 0, .int .i64 0, .string ⟨#[]⟩], []⟩ 8 (by kernel_rfl) (by kernel_rfl) (by kernel_rfl) (by kernel_rfl)) ?_
  intro W base args ds gs before hval0 hW _ hsz0 _
  have hsz : (DataW.weightsEach Try.prog (Try.f5.params.toList ++ Rows.besideSpec.plain.varTypes Try.prog) (ds ++ gs)).all (· ≤ reachBytes) = true := hsz0
  have hval : ∀ (j : Nat) t v, Try.f5.params[j]? = some t → args[j]? = some v → Value.okWide Try.prog W .any base t v := hval0
  have hW' := hW
  obtain ⟨p, q, hA0, hV, rfl, hfz, hnd⟩ := hW
  have hA : DataW.TrodAll enc Try.prog W 0 (fun _ => true) true Try.f5.params.toList args.toList ds p := hA0
  rw [Try.params5] at hA hval hsz
  obtain ⟨v0, v1, v2, d0, d1, d2, p0, p1, p2, rfl, rfl, rfl, h0, h1, h2⟩ := trodAll_three hA
  obtain ⟨rfl, rfl⟩ := trodVars_none hV
  obtain ⟨a0, len0, cap0, rfl⟩ := okWide_slice Try.underlying22 (hval 0 22 v0 rfl rfl)
  have k0 := h0
  have lt0 : ∀ x ∈ p0, x.block < W.heap.size := by obtain ⟨m, hm⟩ := k0; exact DataW.trod_lt m _ _ _ hm
  obtain ⟨l, hl, hl1, hl2, hl3⟩ := chunks_in h0 hsz rfl rfl
  obtain ⟨a1, rfl, rfl, rfl, w1⟩ := open_int Try.underlying3 (hval 1 3 v1 rfl rfl) h1
  have b1 := bounds_i64 w1
  obtain ⟨s2, rfl, rfl, rfl, hs2⟩ := open_string Try.underlying9 (hval 2 9 v2 rfl rfl) h2
  have hd2 := sized_string hsz (j := 2) (bytes := s2.data.toList) rfl rfl
  simp only [reachBytes] at hd2
  subst hl
  clear hA0 hval0
  refine (beside_any X a0 cap0 l a1 s2 W (by omega) hl2 (show s2.size ≤ 140737488351232 from hd2) b1 hl3).mono fun e W' ⟨he, bel⟩ => ?_
  subst he
  exact ⟨_, rfl, _, _, _, [], _, [], hW', trodAll_mk1 (shut_bool Try.underlying4 _), trodAll_mk3 (Below.trod laidOut (by kernel_rfl) (of_decide_eq_true (by kernel_rfl)) k0 bel lt0) (shut_int Try.underlying3 w1) (shut_string Try.underlying9 hs2), rfl, bel.frame _, fun h => by cases h⟩

theorem besideOver (X : Texts) : Rows.besideRow.holds Try.pinned (OpenSpec.ofChange Rows.besideSpec) :=
  OpenClaim.holds_of_wide 5 Try.f5 rfl rfl rfl rfl rfl rfl rfl ⟨rfl, rfl, rfl, rfl, rfl⟩ rfl rfl rfl rfl rfl (by kernel_rfl) Try.func5 (by kernel_rfl)
    (of_decide_eq_true (by kernel_rfl)) (by unfold Func.isWrapper; first | (rw [if_pos (by decide +kernel)]; kernel_rfl) | (rw [if_neg (by decide +kernel)]; exact ⟨rfl, rfl⟩))
    (fun os started H enc _ => besideLifted X os started H enc)

end Go.Proofs.Ytkblmflajfomaaa
