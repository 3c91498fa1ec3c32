/- Package words: Next. -/
import Derived.Test.YtkblmflajfomaaaWords4
namespace Go.Proofs.Ytkblmflajfomaaa
open Go.RowKit
attribute [local go_sem] build_rule build_fin build_text

set_option maxHeartbeats 2000000 in
set_option maxRecDepth 100000 in
theorem next_any (b k : Nat) (n d : ByteArray) (w : World) (hd : d.size ≤ 1024) (hk : k ≤ d.size) (h : ScanAt w b n d k) :
    Calls Try.prog 34 #[.pointer (some ⟨b, 0, none⟩)] w fun e w' => e = .returned (itemV n d (nextF d k).1) ∧ ScanAt w' b n d (nextF d k).2 ∧ Kept [b] w w' := by
  have hbw := lt_of_get h
  go_enter Try.func34, Try.ntmps34
  go_wp2_with fail
  refine (run_any b k n d _ hd hk (by exact h.kept ((Kept.refl [] _).alloc _) (by simp))).mono ?_
  rintro e w1 ⟨rfl, h1, hk1⟩
  have hr1 : w1.heap[w.heap.size]? = some (.cells zeroItem 88 (0, 0)) := hk1.get (heap_alloc_new _ _) (by simp; omega)
  have hkw : Kept [b] w w1 := ((Kept.refl _ _).alloc _).trans hk1
  have hb1 := lt_of_get h1
  have hR1 := lt_of_get hr1
  simp only [itemV]
  go_wp2
  go_loopg [4] (d.size - k) (fun g _ wr => ∃ j, j ≤ d.size ∧ g = d.size - j ∧ Hid (nextF d k = nextF d j) ∧ ScanAt wr b n d (runF d j).2 ∧ ItemAt wr w1.heap.size n d (runF d j).1 ∧ wr.heap[w.heap.size]? = some (.cells zeroItem 88 (0, 0)) ∧ Kept [b] w wr)
  case atStart => exact ⟨k, hk, rfl, rfl, h1.kept ((Kept.refl [] _).alloc _) (by simp), heap_alloc_new _ _, ((Kept.refl [] _).alloc _).get hr1 (by simp), hkw.alloc _⟩
  case round =>
    obtain ⟨j, hj, hg, hs, h2, hi, hr, hkp⟩ := hrel
    have hrl := runF_le d j hj
    have htx := runF_text d j hd
    have L1 : Hid (_ → _ → _ → nextF d j = _) := next_on d j hj
    have L2 : Hid (_ → _ → _ → nextF d j = _) := next_broken d j
    have L3 : Hid (_ → nextF d j = _) := next_plain d j
    generalize hrr : runF d j = r at *
    obtain ⟨⟨t, u, f, p⟩, z⟩ := r
    have HR : Hid (runF d j = (⟨t, u, f, p⟩, z)) := hrr
    clear hrr
    simp only at h2 hi hrl htx
    obtain ⟨q0, q1, q2, q3, q4, q5⟩ := hi.cells
    have hRw := lt_of_get hr
    have hbr := lt_of_get h2
    have hIw := lt_of_get hi
    cases hw : (u == 0 && !f)
    · have HF : Hid (nextF d j = (⟨t, u, f, p⟩, z)) := L3.out (Or.inl hw)
      clear L1 L2 L3
      go_wp2_with fail
      refine (isWord_any t n u (lineAt d p) (colAt d p) _ _).mono ?_
      rintro e w2 ⟨rfl, hk2⟩
      have hi2 := hi.kept hk2 (by simp)
      have h22 := h2.kept hk2 (by simp)
      have hr2 := hk2.get hr (by simp)
      have hkp2 := hkp.trans (hk2.mono (by simp))
      clear q0 q1 q2 q3 q4 q5 hi h2 hr hkp hk2
      obtain ⟨q0, q1, q2, q3, q4, q5⟩ := hi2.cells
      obtain ⟨z0, z1, z2, z3, z4, z5⟩ := cells_zero hr2
      have y := free_of hr2
      go_wp2
      exact bodyPost_ret (v := itemV n d ⟨t, u, f, p⟩) (by simp [results, Try.results34, go_sem, itemV, z0, z1, z2, z3, z4, z5]) rfl
        (by rw [hs.out, HF.out]; exact ⟨rfl, six_scan h22 (by omega) _ _ _ _ _ _, six_kept hkp2 (Nat.le_refl _) _ _ _ _ _ _⟩)

    · cases hx : (t.toList == [36, 40])
      · have HF : Hid (nextF d j = (⟨t, u, f, p⟩, z)) := L3.out (Or.inr hx)
        clear L1 L2 L3
        go_wp2_with fail
        refine (isWord_any t n u (lineAt d p) (colAt d p) _ _).mono ?_
        rintro e w2 ⟨rfl, hk2⟩
        have hi2 := hi.kept hk2 (by simp)
        have h22 := h2.kept hk2 (by simp)
        have hr2 := hk2.get hr (by simp)
        have hkp2 := hkp.trans (hk2.mono (by simp))
        clear q0 q1 q2 q3 q4 q5 hi h2 hr hkp hk2
        obtain ⟨q0, q1, q2, q3, q4, q5⟩ := hi2.cells
        obtain ⟨z0, z1, z2, z3, z4, z5⟩ := cells_zero hr2
        have y := free_of hr2
        go_wp2
        exact bodyPost_ret (v := itemV n d ⟨t, u, f, p⟩) (by simp [results, Try.results34, go_sem, itemV, z0, z1, z2, z3, z4, z5]) rfl
          (by rw [hs.out, HF.out]; exact ⟨rfl, six_scan h22 (by omega) _ _ _ _ _ _, six_kept hkp2 (Nat.le_refl _) _ _ _ _ _ _⟩)

      · have hcl := commentF_le d z hrl.2.1
        have L4 : Hid (_ → nextF d j = nextF d _) := fun h => L1.out hw hx h
        have L5 : Hid (_ → nextF d j = _) := fun h => L2.out hw hx h
        clear L1 L2 L3
        generalize hcc : commentF d z = c at *
        obtain ⟨⟨ct, cu, cf, cp⟩, cz⟩ := c
        have HC : Hid (commentF d z = (⟨ct, cu, cf, cp⟩, cz)) := hcc
        clear hcc
        simp only at hcl
        cases hcw : (cu == 0 && !cf)
        · have HF : Hid (nextF d j = (⟨ct, cu, cf, cp⟩, cz)) := L5.out hcw
          clear L4 L5
          go_wp2_with fail
          refine (isWord_any t n u (lineAt d p) (colAt d p) _ _).mono ?_
          rintro e w2 ⟨rfl, hk2⟩
          have hi2 := hi.kept hk2 (by simp)
          have h22 := h2.kept hk2 (by simp)
          have hr2 := hk2.get hr (by simp)
          have hkp2 := hkp.trans (hk2.mono (by simp))
          clear q0 q1 q2 q3 q4 q5 hi h2 hr hkp hk2
          obtain ⟨q0, q1, q2, q3, q4, q5⟩ := hi2.cells
          go_wp2_with fail
          refine (comment_any b z n d _ hd hrl.2.1 h22).mono ?_
          rintro e w3 ⟨rfl, h3, hk3⟩
          have hi3 := hi2.kept hk3 (by simp; omega)
          have hr3 := hk3.get hr2 (by simp; omega)
          have hkp3 := hkp2.trans hk3
          have hb3 := lt_of_get h3
          have hI3 := lt_of_get hi3
          have hR3 := lt_of_get hr3
          simp only [itemV]
          rw [HC.out]
          simp only
          go_wp2_with fail
          refine (isWord_any ct n cu (lineAt d cp) (colAt d cp) _ _).mono ?_
          rintro e w4 ⟨rfl, hk4⟩
          have hl4 : ItemAt w4 w3.heap.size n d ⟨ct, cu, cf, cp⟩ := hk4.get (heap_alloc_new _ _) (by simp)
          have hi4 := (hi3.kept ((Kept.refl [] _).alloc _) (by simp)).kept hk4 (by simp)
          have h4 := (h3.kept ((Kept.refl [] _).alloc _) (by simp)).kept hk4 (by simp)
          have hr4 := hk4.get (((Kept.refl [] _).alloc _).get hr3 (by simp)) (by simp)
          have hkp4 := (hkp3.alloc _).trans (hk4.mono (by simp))
          rw [HC.out] at h4
          simp only at h4
          have hb4 := lt_of_get h4
          have hI4 := lt_of_get hi4
          have hR4 := lt_of_get hr4
          clear q0 q1 q2 q3 q4 q5 hi2 hr2 hkp2 hk4 hi3 hr3 hkp3 hk3 h3 h22
          obtain ⟨p0, p1, p2, p3, p4, p5⟩ := hl4.cells
          obtain ⟨z0, z1, z2, z3, z4, z5⟩ := cells_zero hr4
          have y := free_of hr4
          go_wp2
          exact bodyPost_ret (v := itemV n d ⟨ct, cu, cf, cp⟩) (by simp [results, Try.results34, go_sem, itemV, z0, z1, z2, z3, z4, z5]) rfl
            (by rw [hs.out, HF.out]; exact ⟨rfl, six_scan h4 (by omega) _ _ _ _ _ _, six_kept hkp4 (Nat.le_refl _) _ _ _ _ _ _⟩)

        · have HF : Hid (nextF d j = nextF d cz) := L4.out hcw
          clear L4 L5
          go_wp2_with fail
          refine (isWord_any t n u (lineAt d p) (colAt d p) _ _).mono ?_
          rintro e w2 ⟨rfl, hk2⟩
          have hi2 := hi.kept hk2 (by simp)
          have h22 := h2.kept hk2 (by simp)
          have hr2 := hk2.get hr (by simp)
          have hkp2 := hkp.trans (hk2.mono (by simp))
          clear q0 q1 q2 q3 q4 q5 hi h2 hr hkp hk2
          obtain ⟨q0, q1, q2, q3, q4, q5⟩ := hi2.cells
          go_wp2_with fail
          refine (comment_any b z n d _ hd hrl.2.1 h22).mono ?_
          rintro e w3 ⟨rfl, h3, hk3⟩
          have hi3 := hi2.kept hk3 (by simp; omega)
          have hr3 := hk3.get hr2 (by simp; omega)
          have hkp3 := hkp2.trans hk3
          have hb3 := lt_of_get h3
          have hI3 := lt_of_get hi3
          have hR3 := lt_of_get hr3
          simp only [itemV]
          rw [HC.out]
          simp only
          go_wp2_with fail
          refine (isWord_any ct n cu (lineAt d cp) (colAt d cp) _ _).mono ?_
          rintro e w4 ⟨rfl, hk4⟩
          have hl4 : ItemAt w4 w3.heap.size n d ⟨ct, cu, cf, cp⟩ := hk4.get (heap_alloc_new _ _) (by simp)
          have hi4 := (hi3.kept ((Kept.refl [] _).alloc _) (by simp)).kept hk4 (by simp)
          have h4 := (h3.kept ((Kept.refl [] _).alloc _) (by simp)).kept hk4 (by simp)
          have hr4 := hk4.get (((Kept.refl [] _).alloc _).get hr3 (by simp)) (by simp)
          have hkp4 := (hkp3.alloc _).trans (hk4.mono (by simp))
          rw [HC.out] at h4
          simp only at h4
          have hb4 := lt_of_get h4
          have hI4 := lt_of_get hi4
          have hR4 := lt_of_get hr4
          clear q0 q1 q2 q3 q4 q5 hi2 hr2 hkp2 hk4 hi3 hr3 hkp3 hk3 h3 h22
          obtain ⟨p0, p1, p2, p3, p4, p5⟩ := hl4.cells
          go_wp2_with fail
          refine (run_any b cz n d _ hd hcl.2 h4).mono ?_
          rintro e w5 ⟨rfl, h5, hk5⟩
          have hi5 := hi4.kept hk5 (by simp; omega)
          have hr5 := hk5.get hr4 (by simp; omega)
          have hkp5 := hkp4.trans hk5
          have yy := free_of hi5
          have hI5 := lt_of_get hi5
          obtain ⟨q0, q1, q2, q3, q4, q5⟩ := hi5.cells
          simp only [itemV]
          go_wp2
          go_roundg (d.size - cz)
          case measure => have := hrl.2.2 hw; omega
          case rel => exact ⟨cz, hcl.2, rfl, hs.out.trans HF.out, six_scan h5 (by omega) _ _ _ _ _ _, item_stored hi5 _, six_other hr5 (by omega) _ _ _ _ _ _, six_kept hkp5 (by omega) _ _ _ _ _ _⟩

end Go.Proofs.Ytkblmflajfomaaa
