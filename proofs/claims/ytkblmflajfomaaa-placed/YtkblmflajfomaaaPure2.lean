/- Texts: comments, words, reading. No walk. -/
import Derived.Test.YtkblmflajfomaaaPure1
namespace Go.Proofs.Ytkblmflajfomaaa
open Go.RowKit

theorem commentF_fin (d : ByteArray) (k : Nat) : (commentF d k).1.fin = false := by
  unfold commentF
  generalize d.size - k + 1 = f
  induction f generalizing k with
  | zero => rfl
  | succ f ih =>
    rw [commentTo]
    split
    · split
      · rfl
      · exact ih _
    · split
      · rfl
      · next h => simpa using h

/-- The shapes of what a comment leaves, one word at a time. -/
theorem comment_cases (d : ByteArray) (k : Nat) (hk : k ≤ d.size) :
    (isWordF (runF d k).1 = true ∧ commentF d k = commentF d (runF d k).2) ∨ ((runF d k).1.fin = false ∧ commentF d k = runF d k) ∨
    ((runF d k).1.fin = false ∧ isWordF (runF d k).1 = true ∧ commentF d k = (⟨⟨#[]⟩, 2, false, (runF d k).1.pos⟩, (runF d k).2)) ∨ (commentF d k).1.rule = 3 := by
  cases hw : isWordF (runF d k).1 with
  | true =>
    have hf : (runF d k).1.fin = false := by have := isWordF_eq hw; rw [this]
    cases hx : ((runF d k).1.text.toList == [36, 41]) with
    | true => exact Or.inr (Or.inl ⟨hf, comment_close d k hw hx⟩)
    | false =>
      cases hy : bracketF (runF d k).1.text with
      | true => exact Or.inr (Or.inr (Or.inl ⟨hf, rfl, comment_nest d k hw hx hy⟩))
      | false => exact Or.inl ⟨rfl, comment_on d k hk hw hx hy⟩
  | false =>
    cases hf : (runF d k).1.fin with
    | true => right; right; right; rw [comment_open d k hw hf]
    | false => exact Or.inr (Or.inl ⟨rfl, comment_bad d k hw hf⟩)

theorem comment_pre {T U : ByteArray} (h : Pre T U) (k : Nat) (hk : k ≤ T.size) (h3 : (commentF T k).1.rule ≠ 3) : commentF U k = commentF T k := by
  have hlt := h.lt
  suffices H : ∀ n k, k ≤ T.size → T.size - k ≤ n → (commentF T k).1.rule ≠ 3 → commentF U k = commentF T k from H _ k hk (Nat.le_refl _) h3
  clear hk h3 k
  intro n
  induction n with
  | zero =>
    intro k hk hn h3
    exfalso
    apply h3
    have e : k = T.size := by omega
    subst e
    have hr : runF T T.size = (⟨⟨#[]⟩, 0, true, T.size⟩, T.size) := runF_no T T.size (Nat.le_refl _) (Nat.le_refl _)
    rw [comment_open T T.size (by rw [hr]; rfl) (by rw [hr])]
  | succ n ih =>
    intro k hk hn h3
    have rp := run_pre h k hk
    have rl := runF_le T k hk
    cases hf : (runF T k).1.fin with
    | true =>
      exfalso; apply h3
      have e := (rp.2 hf).2
      rw [comment_open T k (by rw [e]; rfl) hf]
    | false =>
      have er := rp.1 hf
      cases hw : isWordF (runF T k).1 with
      | true =>
        have rl2 := rl.2.2 hw
        cases hx : ((runF T k).1.text.toList == [36, 41]) with
        | true => rw [comment_close T k hw hx, comment_close U k (by rw [er]; exact hw) (by rw [er]; exact hx), er]
        | false =>
          cases hy : bracketF (runF T k).1.text with
          | true => rw [comment_nest T k hw hx hy, comment_nest U k (by rw [er]; exact hw) (by rw [er]; exact hx) (by rw [er]; exact hy), er]
          | false =>
            rw [comment_on T k hk hw hx hy] at h3 ⊢
            rw [comment_on U k (by omega) (by rw [er]; exact hw) (by rw [er]; exact hx) (by rw [er]; exact hy), er]
            exact ih _ rl.2.1 (by omega) h3
      | false => rw [comment_bad T k hw hf, comment_bad U k (by rw [er]; exact hw) (by rw [er]; exact hf), er]

/-- What comes next hangs on what 'run' tells alone. -/
theorem next_congr (d : ByteArray) (k j : Nat) (hk : k ≤ d.size) (hj : j ≤ d.size) (h : runF d k = runF d j) : nextF d k = nextF d j := by
  obtain ⟨f, hf⟩ : ∃ f, f = d.size + 1 := ⟨_, rfl⟩
  rw [← nextTo_fuel d (f + 1) k hk (by omega), ← nextTo_fuel d (f + 1) j hj (by omega), nextTo, nextTo, h]

theorem next_pre {T U : ByteArray} (h : Pre T U) (k : Nat) (hk : k ≤ T.size) (h3 : (nextF T k).1.rule ≠ 3) :
    ((nextF T k).1.fin = false → nextF U k = nextF T k) ∧ ((nextF T k).1.fin = true → nextF U k = nextF U (T.size + 1)) := by
  have hlt := h.lt
  suffices H : ∀ n k, k ≤ T.size → T.size - k ≤ n → (nextF T k).1.rule ≠ 3 → ((nextF T k).1.fin = false → nextF U k = nextF T k) ∧ ((nextF T k).1.fin = true → nextF U k = nextF U (T.size + 1)) from H _ k hk (Nat.le_refl _) h3
  clear hk h3 k
  intro n
  induction n with
  | zero =>
    intro k hk hn h3
    have e : k = T.size := by omega
    subst e
    have hr : runF T T.size = (⟨⟨#[]⟩, 0, true, T.size⟩, T.size) := runF_no T T.size (Nat.le_refl _) (Nat.le_refl _)
    have hn' : nextF T T.size = runF T T.size := next_plain T _ (Or.inl (by rw [hr]; rfl))
    rw [hn', hr]
    exact ⟨fun hf => (by cases hf), fun _ => next_congr U _ _ (by omega) (by omega) ((run_pre h T.size (Nat.le_refl _)).2 (by rw [hr])).1⟩
  | succ n ih =>
    intro k hk hn h3
    have rp := run_pre h k hk
    have rl := runF_le T k hk
    cases hf : (runF T k).1.fin with
    | true =>
      have hr := (rp.2 hf).2
      have hn' : nextF T k = runF T k := next_plain T _ (Or.inl (by rw [hr]; rfl))
      rw [hn']
      refine ⟨fun hf' => ?_, fun _ => next_congr U _ _ (by omega) (by omega) (rp.2 hf).1⟩
      rw [hf] at hf'; cases hf'
    | false =>
      have er := rp.1 hf
      by_cases hc : isWordF (runF T k).1 = true ∧ ((runF T k).1.text.toList == [36, 40]) = true
      · have rl2 := rl.2.2 hc.1
        cases hcw : isWordF (commentF T (runF T k).2).1 with
        | true =>
          have c3 : (commentF T (runF T k).2).1.rule ≠ 3 := by rw [isWordF_eq hcw]; simp
          have ec := comment_pre h (runF T k).2 rl.2.1 c3
          have cl := commentF_le T (runF T k).2 rl.2.1
          rw [next_on T k hk hc.1 hc.2 hcw] at h3 ⊢
          rw [next_on U k (by omega) (by rw [er]; exact hc.1) (by rw [er]; exact hc.2) (by rw [er, ec]; exact hcw), er, ec]
          exact ih _ cl.2 (by omega) h3
        | false =>
          rw [next_broken T k hc.1 hc.2 hcw] at h3 ⊢
          have ec := comment_pre h (runF T k).2 rl.2.1 h3
          refine ⟨fun _ => ?_, fun hf' => ?_⟩
          · rw [next_broken U k (by rw [er]; exact hc.1) (by rw [er]; exact hc.2) (by rw [er, ec]; exact hcw), er, ec]
          · rw [commentF_fin] at hf'; cases hf'
      · have hc' : isWordF (runF T k).1 = false ∨ ((runF T k).1.text.toList == [36, 40]) = false := by
          cases h1 : isWordF (runF T k).1 with
          | false => exact Or.inl rfl
          | true =>
            cases h2 : ((runF T k).1.text.toList == [36, 40]) with
            | false => exact Or.inr rfl
            | true => exact absurd ⟨h1, h2⟩ hc
        rw [next_plain T k hc']
        refine ⟨fun _ => ?_, fun hf' => ?_⟩
        · rw [next_plain U k (by rw [er]; exact hc'), er]
        · rw [hf] at hf'; cases hf'

theorem nextF_fin (d : ByteArray) (k : Nat) (h : (nextF d k).1.fin = true) : (nextF d k).1.rule = 0 := by
  unfold nextF at h ⊢
  generalize d.size - k + 1 = f at h ⊢
  induction f generalizing k with
  | zero => rfl
  | succ f ih =>
    rw [nextTo] at h ⊢
    split at h
    · next h1 =>
      rw [if_pos h1]
      split at h
      · next h2 => rw [if_pos h2]; exact ih _ h
      · rw [commentF_fin] at h; cases h
    · next h1 => rw [if_neg h1]; exact runF_fin d k h

theorem read_congr (s : ByteArray) (k j : Nat) (d : Db) (hk : k ≤ s.size) (hj : j ≤ s.size) (h : nextF s k = nextF s j) : readF s k d = readF s j d := by
  obtain ⟨f, hf⟩ : ∃ f, f = s.size + 1 := ⟨_, rfl⟩
  rw [← readTo_fuel s (f + 1) k d hk (by omega), ← readTo_fuel s (f + 1) j d hj (by omega), readTo, readTo, h]

/-- A text without a fault, and what follows it: the reading goes on behind it. -/
theorem read_pre {T U : ByteArray} (h : Pre T U) (k : Nat) (d : Db) (hk : k ≤ T.size) (h0 : (readF T k d).1 = 0) : ∃ d', openF d' = false ∧ readF U k d = readF U (T.size + 1) d' := by
  have hlt := h.lt
  suffices H : ∀ n k d, k ≤ T.size → T.size - k ≤ n → (readF T k d).1 = 0 → ∃ d', openF d' = false ∧ readF U k d = readF U (T.size + 1) d' from H _ k d hk (Nat.le_refl _) h0
  clear hk h0 k d
  intro n
  induction n with
  | zero =>
    intro k d hk hn h0
    have e : k = T.size := by omega
    subst e
    have hr : runF T T.size = (⟨⟨#[]⟩, 0, true, T.size⟩, T.size) := runF_no T T.size (Nat.le_refl _) (Nat.le_refl _)
    have hn' : nextF T T.size = runF T T.size := next_plain T _ (Or.inl (by rw [hr]; rfl))
    have np := next_pre h T.size (Nat.le_refl _) (by rw [hn', hr]; simp)
    have hw : isWordF (nextF T T.size).1 = false := by rw [hn', hr]; rfl
    have hf : (nextF T T.size).1.fin = true := by rw [hn', hr]
    cases ho : openF d with
    | true => rw [read_open T _ d hw hf ho] at h0; simp at h0
    | false => exact ⟨d, ho, read_congr U _ _ d (by omega) (by omega) (np.2 hf)⟩
  | succ n ih =>
    intro k d hk hn h0
    have nl := nextF_le T k hk
    cases hw : isWordF (nextF T k).1 with
    | true =>
      have np := next_pre h k hk (by rw [isWordF_eq hw]; simp)
      have hf : (nextF T k).1.fin = false := by rw [isWordF_eq hw]
      have en := np.1 hf
      have nl2 := nl.2.2 hw
      cases ht : ((takeF d (nextF T k).1.text).1 == 0) with
      | true =>
        rw [read_on T k d hk hw ht] at h0
        rw [read_on U k d (by omega) (by rw [en]; exact hw) (by rw [en]; exact ht), en]
        exact ih _ _ nl.2.1 (by omega) h0
      | false =>
        rw [read_rule T k d hw ht] at h0
        simp only at h0
        rw [h0] at ht; simp at ht
    | false =>
      cases hf : (nextF T k).1.fin with
      | true =>
        cases ho : openF d with
        | true => rw [read_open T k d hw hf ho] at h0; simp at h0
        | false =>
          have h3 : (nextF T k).1.rule ≠ 3 := by rw [nextF_fin T k hf]; simp
          exact ⟨d, ho, read_congr U _ _ d (by omega) (by omega) ((next_pre h k hk h3).2 hf)⟩
      | false =>
        rw [read_bad T k d hw hf] at h0
        have := isWordF_not hw hf
        simp only at h0
        rw [h0] at this; simp at this

end Go.Proofs.Ytkblmflajfomaaa
