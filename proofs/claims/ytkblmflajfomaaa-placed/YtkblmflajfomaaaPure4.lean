/- Texts: a fault that is not at the end stays the fault. No walk. -/
import Derived.Test.YtkblmflajfomaaaPure3
namespace Go.Proofs.Ytkblmflajfomaaa
open Go.RowKit

theorem read_stay {T U : ByteArray} (h : Pre T U) (k : Nat) (d : Db) (r : Int) (p : Nat) (hk : k ≤ T.size) (hr : readF T k d = (r, p)) (h0 : r ≠ 0) (h7 : r ≠ 7) (h3 : r ≠ 3) : readF U k d = (r, p) := by
  have hlt := h.lt
  suffices H : ∀ n k d, k ≤ T.size → T.size - k ≤ n → readF T k d = (r, p) → readF U k d = (r, p) from H _ k d hk (Nat.le_refl _) hr
  clear hk hr k d
  intro n
  induction n with
  | zero =>
    intro k d hk hn hr
    have e : k = T.size := by omega
    subst e
    have e1 : runF T T.size = (⟨⟨#[]⟩, 0, true, T.size⟩, T.size) := runF_no T T.size (Nat.le_refl _) (Nat.le_refl _)
    have hn' : nextF T T.size = runF T T.size := next_plain T _ (Or.inl (by rw [e1]; rfl))
    have hw : isWordF (nextF T T.size).1 = false := by rw [hn', e1]; rfl
    have hf : (nextF T T.size).1.fin = true := by rw [hn', e1]
    cases ho : openF d with
    | true => rw [read_open T _ d hw hf ho] at hr; exact absurd (Prod.mk.inj hr).1.symm h7
    | false => rw [read_end T _ d hw hf ho] at hr; exact absurd (Prod.mk.inj hr).1.symm h0
  | succ n ih =>
    intro k d hk hn hr
    have nl := nextF_le T k hk
    cases hw : isWordF (nextF T k).1 with
    | true =>
      have np := next_pre h k hk (by rw [isWordF_eq hw]; simp)
      have hf : (nextF T k).1.fin = false := by rw [isWordF_eq hw]
      have en := np.1 hf
      have nl2 := nl.2.2 hw
      cases ht : ((takeF d (nextF T k).1.text).1 == 0) with
      | true =>
        rw [read_on T k d hk hw ht] at hr
        rw [read_on U k d (by omega) (by rw [en]; exact hw) (by rw [en]; exact ht), en]
        exact ih _ _ nl.2.1 (by omega) hr
      | false =>
        rw [read_rule T k d hw ht] at hr
        rw [read_rule U k d (by rw [en]; exact hw) (by rw [en]; exact ht), en]
        exact hr
    | false =>
      cases hf : (nextF T k).1.fin with
      | true =>
        cases ho : openF d with
        | true => rw [read_open T k d hw hf ho] at hr; exact absurd (Prod.mk.inj hr).1.symm h7
        | false => rw [read_end T k d hw hf ho] at hr; exact absurd (Prod.mk.inj hr).1.symm h0
      | false =>
        rw [read_bad T k d hw hf] at hr
        have en := (next_pre h k hk (by rw [(Prod.mk.inj hr).1]; exact h3)).1 hf
        rw [read_bad U k d (by rw [en]; exact hw) (by rw [en]; exact hf), en]
        exact hr

theorem holds_parts (a b : ByteArray) (h : holdsF (a ++ b) = false) : holdsF a = false ∧ holdsF b = false := by
  have sz : (a ++ b).size = a.size + b.size := ByteArray.size_append
  rw [holds_iff] at h
  constructor
  · rw [holds_iff]
    rintro i hi ⟨h1, h2⟩
    exact h i (by omega) ⟨by rw [byteAt_append_left _ _ _ (by omega)]; exact h1, by rw [byteAt_append_left _ _ _ (by omega)]; exact h2⟩
  · rw [holds_iff]
    rintro i hi ⟨h1, h2⟩
    exact h (a.size + i) (by omega) ⟨by rw [byteAt_append_right _ _ _ (by omega)]; exact h1, by rw [show a.size + i + 1 = a.size + (i + 1) by omega, byteAt_append_right _ _ _ (by omega)]; exact h2⟩

/-- All that the walk of 'stay' is told. -/
theorem stay_texts (t b : ByteArray) (r : Int) (p : Nat) (hr : readF t 0 emptyDb = (r, p)) (h0 : (r == 0) = false) (h7 : (r != 7) = true) (h3 : (r != 3) = true) :
    readF (t ++ ⟨#[10]⟩ ++ b) 0 emptyDb = (r, p) ∧ lineAt (t ++ ⟨#[10]⟩ ++ b) p = lineAt t p ∧ colAt (t ++ ⟨#[10]⟩ ++ b) p = colAt t p := by
  have h0' : r ≠ 0 := by simpa using h0
  have pr := pre_of t b
  have hp := readF_pos t 0 emptyDb (Nat.zero_le _) (by rw [hr]; exact h0')
  rw [hr] at hp
  have lp := line_pre pr p hp.2
  exact ⟨read_stay pr 0 emptyDb r p (Nat.zero_le _) hr h0' (by simpa using h7) (by simpa using h3), lp.1, lp.2⟩

end Go.Proofs.Ytkblmflajfomaaa
