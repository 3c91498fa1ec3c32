/- Package statements: a statement's end. -/
import Derived.Test.YtkblmflajfomaaaDb9
namespace Go.Proofs.Ytkblmflajfomaaa
open Go.RowKit

set_option maxHeartbeats 1600000 in
set_option maxRecDepth 100000 in
theorem end_any (b t o : Nat) (pre post : List Value) (d : Db) (H : Nat → Hd) (w : World) (h : DbIs w b t pre post d H) (ho : pre.length = o) (hs : Small d 100000000) :
    Calls Try.prog 52 #[.pointer (some ⟨b, o, none⟩)] w fun e w' => e = .returned (.int .i64 (endF d).1) ∧ ∃ H', DbIs w' b t pre post (endF d).2 H' ∧ Turned b w H w' H' := by
  obtain ⟨q0, q1, q2, q3, q4, q5, q6, q7, q8⟩ := h.cells o ho
  have hfr := h.free
  by_cases hlt : (d.symbols.length : Int) < leastF d
  · have HT : Hid (endF d = (15, d)) := by show endF d = _; simp only [endF, if_pos hlt]
    go_enter Try.func52, Try.ntmps52
    go_wp2_with fail
    go_quiet ((go_at_call 58; exact Calls.quiet_of_same (least_any b t o pre post d H _ (h.still ((Kept.refl [] w).drewN _)) ho)))
    go_wp2
    go_ret
    exact ⟨ret_int (by rw [HT.out]), H, by rw [HT.out]; exact h.still ((Kept.refl [] _).drewN _), (Turned.refl _ _ _).still ((Kept.refl [] _).drewN _)⟩
  · cases k8 : (d.kind == 8)
    · have HT : Hid (endF d = (0, { declareF d with kind := 0, symbols := [], inProof := false })) := by show endF d = _; simp [endF, hlt, k8]
      go_enter Try.func52, Try.ntmps52
      go_wp2_with fail
      go_quiet ((go_at_call 58; exact Calls.quiet_of_same (least_any b t o pre post d H _ (h.still ((Kept.refl [] w).drewN _)) ho)))
      go_wp2_with fail
      refine (declare_any b t o pre post d H _ (by exact h.still ((Kept.refl [] _).drewN _)) ho hs).mono ?_
      rintro e w2 ⟨rfl, H2, D2, T2⟩
      have K1 := D2.kind o ho 0
      have K2 := (show Hid _ from K1.out.1.forget o ho)
      have K3 := K2.out.1.proof o ho false
      clear q0 q1 q2 q3 q4 q5 q6 q7 q8 hfr
      obtain ⟨q0, q1, q2, q3, q4, q5, q6, q7, q8⟩ := D2.cells o ho
      have hfr := D2.free
      go_wp2
      go_ret
      exact ⟨ret_int (by rw [HT.out]), _, by rw [HT.out]; exact K3.out.1, (T2.first ((Kept.refl [] _).drewN _)).trans (K1.out.2.trans (K2.out.2.trans K3.out.2))⟩
    · cases hp : d.inProof
      · have HT : Hid (endF d = (23, d)) := by show endF d = _; simp [endF, hlt, k8, hp]
        rw [hp] at q8
        go_enter Try.func52, Try.ntmps52
        go_wp2_with fail
        go_quiet ((go_at_call 58; exact Calls.quiet_of_same (least_any b t o pre post d H _ (h.still ((Kept.refl [] w).drewN _)) ho)))
        go_wp2
        go_ret
        exact ⟨ret_int (by rw [HT.out]), H, by rw [HT.out]; exact h.still ((Kept.refl [] _).drewN _), (Turned.refl _ _ _).still ((Kept.refl [] _).drewN _)⟩
      · have HT : Hid (endF d = (0, { declareF d with kind := 0, symbols := [], inProof := false })) := by show endF d = _; simp [endF, hlt, hp]
        rw [hp] at q8
        go_enter Try.func52, Try.ntmps52
        go_wp2_with fail
        go_quiet ((go_at_call 58; exact Calls.quiet_of_same (least_any b t o pre post d H _ (h.still ((Kept.refl [] w).drewN _)) ho)))
        go_wp2_with fail
        refine (declare_any b t o pre post d H _ (by exact h.still ((Kept.refl [] _).drewN _)) ho hs).mono ?_
        rintro e w2 ⟨rfl, H2, D2, T2⟩
        have K1 := D2.kind o ho 0
        have K2 := (show Hid _ from K1.out.1.forget o ho)
        have K3 := K2.out.1.proof o ho false
        clear q0 q1 q2 q3 q4 q5 q6 q7 q8 hfr
        obtain ⟨q0, q1, q2, q3, q4, q5, q6, q7, q8⟩ := D2.cells o ho
        have hfr := D2.free
        go_wp2
        go_ret
        exact ⟨ret_int (by rw [HT.out]), _, by rw [HT.out]; exact K3.out.1, (T2.first ((Kept.refl [] _).drewN _)).trans (K1.out.2.trans (K2.out.2.trans K3.out.2))⟩


end Go.Proofs.Ytkblmflajfomaaa
