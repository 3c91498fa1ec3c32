import Derived.Test.YtcipkfhpcbddiaaGreatG08
/- Package record: FindAssertion. -/
namespace Go.Proofs.YtcipkfhpcbddiaaGreat
open Go.RowKit

def namesA (l : List St) (lab : ByteArray) (n : Nat) : Bool := match l[n]? with | some s => (s.label.toList == lab.toList) && isA s.kind | none => false
/-- The assertion that has this label. -/
def findAF (l : List St) (lab : ByteArray) : Option Nat := (List.range l.length).find? (namesA l lab)
theorem namesA_eq (l : List St) (lab : ByteArray) (n : Nat) (h : n < l.length) : namesA l lab n = ((l[n].label.toList == lab.toList) && isA l[n].kind) := by
  unfold namesA; rw [List.getElem?_eq_getElem h]

set_option maxHeartbeats 1600000 in
theorem findAssertion_any (b o : Nat) (lab : ByteArray) (l : List St) (H : Nat → Hd) (w : World) (h : RecAt w b o l H) (hl : l.length ≤ 1073741824) :
    Calls Tryz.prog 55 #[.pointer (some ⟨b, o, none⟩), .string lab] w fun e w' => e = .returned (.int .i64 (optV (findAF l lab))) ∧ Kept [] w w' := by
  have hbw := h.lt
  go_enter Tryz.func55, Tryz.ntmps55
  go_wp2
  go_loopg [5] l.length (fun g i wr => ∃ k : Nat, k ≤ l.length ∧ g = l.length - k ∧ i = .int .i64 k ∧ Hid (∀ i, i < k → namesA l lab i = false) ∧ Kept [] w wr)
  case atStart => exact ⟨0, by omega, by omega, rfl, fun i hi => by omega, Kept.refl _ _⟩
  case round =>
    obtain ⟨k, hk, hg, rfl, hall, hK⟩ := hrel
    have hr := h.still hK
    have c := hr.at
    by_cases hlt : k < l.length
    · obtain ⟨g, e1, e2, e3, c0, c1, c2, c3, c4, c5, c6, c7⟩ := hr.sts.stmt k hlt
      rw [e1] at c
      have HN := (show Hid _ from namesA_eq l lab k hlt)
      have next : Hid (namesA l lab k = false → ∀ i, i < k + 1 → namesA l lab i = false) := by
        intro hf i hi
        by_cases e : i = k
        · subst e; exact hf
        · exact hall.out i (by omega)
      generalize l[k] = s at *
      cases hb : (s.label.toList == lab.toList)
      · have HF : Hid (namesA l lab k = false) := by show _ = _; rw [HN.out, hb]; simp
        clear HN hr
        go_wp2
        go_roundg (l.length - (k + 1))
        case measure => omega
        case rel => exact ⟨k + 1, by omega, rfl, by go_num, next.out HF.out, hK⟩
      · cases ha : isA s.kind
        · have HF : Hid (namesA l lab k = false) := by show _ = _; rw [HN.out, ha]; simp
          clear HN hr
          go_wp2_with (go_at_call 65; refine (isAssertion_any s.kind _ _ _ _ _ _ _ _).mono ?_; rintro e w1 ⟨rfl, hk1⟩; rw [ha])
          go_roundg (l.length - (k + 1))
          case measure => omega
          case rel => exact ⟨k + 1, by omega, rfl, by go_num, next.out HF.out, hK.trans hk1⟩
        · have HF : Hid (findAF l lab = some k) := range_hit hlt (by rw [HN.out, hb, ha]; rfl) hall.out
          clear HN hr
          go_wp2_with (go_at_call 65; refine (isAssertion_any s.kind _ _ _ _ _ _ _ _).mono ?_; rintro e w1 ⟨rfl, hk1⟩; rw [ha])
          go_ret
          exact ⟨ret_int (by rw [HF.out]; rfl), hK.trans hk1⟩
    · have HF : Hid (findAF l lab = none) := range_none (fun i hi => hall.out i (by omega))
      clear hr
      go_wp2
      go_ret
      exact ⟨ret_int (by rw [HF.out]; rfl), hK⟩

end Go.Proofs.YtcipkfhpcbddiaaGreat
