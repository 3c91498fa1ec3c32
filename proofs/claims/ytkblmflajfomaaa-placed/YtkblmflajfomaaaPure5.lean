/- Texts: a byte 7 inside a text is told at its place. No walk. -/
import Derived.Test.YtkblmflajfomaaaPure3
namespace Go.Proofs.Ytkblmflajfomaaa
open Go.RowKit

/-- S has the bytes of T up to k, and there a byte 7. -/
structure Ins (T S : ByteArray) (k : Nat) : Prop where
  le : k ≤ T.size
  lt : k < S.size
  same : ∀ i, i < k → byteAt S i = byteAt T i
  bel : byteAt S k = 7

theorem blank7 : blankB 7 = false := by decide
theorem plain7 : plainB 7 = false := by decide

def badAt (k : Nat) : Item × Nat := (⟨⟨#[]⟩, 1, false, k⟩, k)

theorem skip_ins {T S : ByteArray} {k : Nat} (h : Ins T S k) (j : Nat) (hj : j ≤ k) : (skip T j < k → skip S j = skip T j) ∧ (k ≤ skip T j → skip S j = k) := by
  have hlt := h.lt
  have hle := h.le
  suffices H : ∀ n j, j ≤ k → k - j = n → (skip T j < k → skip S j = skip T j) ∧ (k ≤ skip T j → skip S j = k) from H _ j hj rfl
  intro n
  induction n with
  | zero =>
    intro j hj hn
    have e : j = k := by omega
    subst e
    have e1 : skip S j = j := skip_off S j (by rw [h.bel, blank7]; simp)
    have e2 := (skip_le T j hle).1
    exact ⟨fun h1 => by omega, fun _ => e1⟩
  | succ n ih =>
    intro j hj hn
    have hjk : j < k := by omega
    by_cases hb : blankB (byteAt T j) = true
    · rw [skip_on T j (by omega) hb, skip_on S j (by omega) (by rw [h.same j hjk]; exact hb)]
      exact ih (j + 1) (by omega) (by omega)
    · rw [skip_off T j (fun hh => hb hh.2), skip_off S j (fun hh => hb (by rw [← h.same j hjk]; exact hh.2))]
      exact ⟨fun _ => rfl, fun h1 => by omega⟩

theorem word_ins {T S : ByteArray} {k : Nat} (h : Ins T S k) (j : Nat) (hj : j ≤ k) : (wordEnd T j < k → wordEnd S j = wordEnd T j) ∧ (k ≤ wordEnd T j → wordEnd S j = k) := by
  have hlt := h.lt
  have hle := h.le
  suffices H : ∀ n j, j ≤ k → k - j = n → (wordEnd T j < k → wordEnd S j = wordEnd T j) ∧ (k ≤ wordEnd T j → wordEnd S j = k) from H _ j hj rfl
  intro n
  induction n with
  | zero =>
    intro j hj hn
    have e : j = k := by omega
    subst e
    have e1 : wordEnd S j = j := word_off S j (by rw [h.bel, plain7]; simp)
    have e2 := (wordEnd_le T j hle).1
    exact ⟨fun h1 => by omega, fun _ => e1⟩
  | succ n ih =>
    intro j hj hn
    have hjk : j < k := by omega
    by_cases hb : blankB (byteAt T j) = false ∧ plainB (byteAt T j) = true
    · rw [word_on T j (by omega) hb.1 hb.2, word_on S j (by omega) (by rw [h.same j hjk]; exact hb.1) (by rw [h.same j hjk]; exact hb.2)]
      exact ih (j + 1) (by omega) (by omega)
    · rw [word_off T j (fun hh => hb hh.2), word_off S j (fun hh => hb (by rw [← h.same j hjk]; exact hh.2))]
      exact ⟨fun _ => rfl, fun h1 => by omega⟩

theorem extract_ins {T S : ByteArray} {k : Nat} (h : Ins T S k) (a z : Nat) (hz : z ≤ k) : S.extract a z = T.extract a z := by
  have hlt := h.lt
  have hle := h.le
  apply ByteArray.ext
  apply Array.ext
  · simp; omega
  · intro i h1 h2
    have hi : a + i < k := by simp at h2; omega
    have := h.same (a + i) hi
    rw [byteAt_of S _ (by omega), byteAt_of T _ (by omega)] at this
    have e : (S[a + i]'(by omega)).toNat = (T[a + i]'(by omega)).toNat := by omega
    have e2 : (S[a + i]'(by omega)) = (T[a + i]'(by omega)) := UInt8.toNat_inj.1 e
    simpa [ByteArray.getElem_eq_getElem_data] using e2

theorem run_bad {T S : ByteArray} {k : Nat} (h : Ins T S k) (a : Nat) (j : Nat) (hs : skip S j = a) (hw : wordEnd S a = k) : runF S j = badAt k := by
  simp only [runF, hs, hw]
  rw [if_pos ⟨h.lt, by rw [h.bel]; exact blank7⟩]
  rfl

theorem run_ins {T S : ByteArray} {k : Nat} (h : Ins T S k) (j : Nat) (hj : j ≤ k) : (runF S j = runF T j ∧ (runF T j).2 < k) ∨ runF S j = badAt k := by
  have hlt := h.lt
  have hle := h.le
  have sp := skip_ins h j hj
  have sl := skip_le T j (by omega)
  rcases Nat.lt_or_ge (skip T j) k with ha | ha
  · have es := sp.1 ha
    have wp := word_ins h (skip T j) (by omega)
    rcases Nat.lt_or_ge (wordEnd T (skip T j)) k with hz | hz
    · have ew := wp.1 hz
      left
      rcases runF_cases T j (by omega) with ⟨z, hz1, hw, hb, he⟩ | ⟨hs, he⟩ | ⟨z, hz1, hz2, hw, hb, he⟩
      · rw [hw] at ew hz
        rw [he]
        refine ⟨?_, hz⟩
        simp only [runF, es, ew]
        rw [if_pos ⟨by omega, by rw [h.same z hz]; exact hb⟩]
      · omega
      · rw [hw] at ew hz
        rw [he]
        refine ⟨?_, hz⟩
        simp only [runF, es, ew]
        have hne : ¬ (z < S.size ∧ blankB (byteAt S z) = false) := by
          rintro ⟨_, hbz⟩
          rw [h.same z hz] at hbz; exact hb ⟨by omega, hbz⟩
        rw [if_neg hne, if_neg (by omega), extract_ins h _ _ (by omega)]
    · right; exact run_bad h (skip T j) j es (wp.2 hz)
  · right
    have es := sp.2 ha
    have ew : wordEnd S k = k := word_off S k (by rw [h.bel, plain7]; simp)
    exact run_bad h k j es ew

theorem runF_fin2 (d : ByteArray) (k : Nat) (hk : k ≤ d.size) (h : (runF d k).1.fin = true) : (runF d k).2 = d.size := by
  rcases runF_cases d k hk with ⟨z, _, _, _, he⟩ | ⟨_, he⟩ | ⟨z, _, _, _, _, he⟩
  · rw [he] at h; cases h
  · rw [he]
  · rw [he] at h; cases h

theorem comment_ins {T S : ByteArray} {k : Nat} (h : Ins T S k) (j : Nat) (hj : j ≤ k) : (commentF S j = commentF T j ∧ (commentF T j).2 < k) ∨ commentF S j = badAt k := by
  have hlt := h.lt
  have hle := h.le
  suffices H : ∀ n j, j ≤ k → k - j ≤ n → (commentF S j = commentF T j ∧ (commentF T j).2 < k) ∨ commentF S j = badAt k from H _ j hj (Nat.le_refl _)
  clear hj j
  intro n
  induction n with
  | zero =>
    intro j hj hn
    rcases run_ins h j hj with ⟨er, hz⟩ | er
    · have := runF_le T j (by omega); omega
    · right; rw [comment_bad S j (by rw [er]; rfl) (by rw [er]; rfl), er]
  | succ n ih =>
    intro j hj hn
    rcases run_ins h j hj with ⟨er, hz⟩ | er
    · have rl := runF_le T j (by omega)
      have hf : (runF T j).1.fin = false := by
        cases hf : (runF T j).1.fin with
        | false => rfl
        | true => have := runF_fin2 T j (by omega) hf; omega
      cases hw : isWordF (runF T j).1 with
      | true =>
        have rl2 := rl.2.2 hw
        cases hx : ((runF T j).1.text.toList == [36, 41]) with
        | true =>
          left
          rw [comment_close T j hw hx, comment_close S j (by rw [er]; exact hw) (by rw [er]; exact hx), er]
          exact ⟨rfl, hz⟩
        | false =>
          cases hy : bracketF (runF T j).1.text with
          | true =>
            left
            rw [comment_nest T j hw hx hy, comment_nest S j (by rw [er]; exact hw) (by rw [er]; exact hx) (by rw [er]; exact hy), er]
            exact ⟨rfl, hz⟩
          | false =>
            rw [comment_on T j (by omega) hw hx hy, comment_on S j (by omega) (by rw [er]; exact hw) (by rw [er]; exact hx) (by rw [er]; exact hy), er]
            exact ih _ (by omega) (by omega)
      | false =>
        left
        rw [comment_bad T j hw hf, comment_bad S j (by rw [er]; exact hw) (by rw [er]; exact hf), er]
        exact ⟨rfl, hz⟩
    · right; rw [comment_bad S j (by rw [er]; rfl) (by rw [er]; rfl), er]

theorem next_ins {T S : ByteArray} {k : Nat} (h : Ins T S k) (j : Nat) (hj : j ≤ k) : (nextF S j = nextF T j ∧ (nextF T j).2 < k) ∨ nextF S j = badAt k := by
  have hlt := h.lt
  have hle := h.le
  suffices H : ∀ n j, j ≤ k → k - j ≤ n → (nextF S j = nextF T j ∧ (nextF T j).2 < k) ∨ nextF S j = badAt k from H _ j hj (Nat.le_refl _)
  clear hj j
  intro n
  induction n with
  | zero =>
    intro j hj hn
    rcases run_ins h j hj with ⟨er, hz⟩ | er
    · have := runF_le T j (by omega); omega
    · right; rw [next_plain S j (Or.inl (by rw [er]; rfl)), er]
  | succ n ih =>
    intro j hj hn
    rcases run_ins h j hj with ⟨er, hz⟩ | er
    · have rl := runF_le T j (by omega)
      by_cases hc : isWordF (runF T j).1 = true ∧ ((runF T j).1.text.toList == [36, 40]) = true
      · have rl2 := rl.2.2 hc.1
        rcases comment_ins h (runF T j).2 (by omega) with ⟨ec, hcz⟩ | ec
        · have cl := commentF_le T (runF T j).2 (by omega)
          cases hcw : isWordF (commentF T (runF T j).2).1 with
          | true =>
            rw [next_on T j (by omega) hc.1 hc.2 hcw, next_on S j (by omega) (by rw [er]; exact hc.1) (by rw [er]; exact hc.2) (by rw [er, ec]; exact hcw), er, ec]
            exact ih _ (by omega) (by omega)
          | false =>
            left
            rw [next_broken T j hc.1 hc.2 hcw, next_broken S j (by rw [er]; exact hc.1) (by rw [er]; exact hc.2) (by rw [er, ec]; exact hcw), er, ec]
            exact ⟨rfl, hcz⟩
        · right
          rw [next_broken S j (by rw [er]; exact hc.1) (by rw [er]; exact hc.2) (by rw [er, ec]; rfl), er, ec]
      · have hc' : isWordF (runF T j).1 = false ∨ ((runF T j).1.text.toList == [36, 40]) = false := by
          cases h1 : isWordF (runF T j).1 with
          | false => exact Or.inl rfl
          | true =>
            cases h2 : ((runF T j).1.text.toList == [36, 40]) with
            | false => exact Or.inr rfl
            | true => exact absurd ⟨h1, h2⟩ hc
        left
        rw [next_plain T j hc', next_plain S j (by rw [er]; exact hc'), er]
        exact ⟨rfl, hz⟩
    · right; rw [next_plain S j (Or.inl (by rw [er]; rfl)), er]

theorem nextF_fin2 (d : ByteArray) (k : Nat) (hk : k ≤ d.size) (h : (nextF d k).1.fin = true) : (nextF d k).2 = d.size := by
  suffices H : ∀ n k, k ≤ d.size → d.size - k ≤ n → (nextF d k).1.fin = true → (nextF d k).2 = d.size from H _ k hk (Nat.le_refl _) h
  clear hk h k
  intro n
  induction n with
  | zero =>
    intro k hk hn h
    have := nextF_le d k hk
    omega
  | succ n ih =>
    intro k hk hn h
    have rl := runF_le d k hk
    by_cases hc : isWordF (runF d k).1 = true ∧ ((runF d k).1.text.toList == [36, 40]) = true
    · have rl2 := rl.2.2 hc.1
      have cl := commentF_le d (runF d k).2 rl.2.1
      cases hcw : isWordF (commentF d (runF d k).2).1 with
      | true =>
        rw [next_on d k hk hc.1 hc.2 hcw] at h ⊢
        exact ih _ cl.2 (by omega) h
      | false =>
        rw [next_broken d k hc.1 hc.2 hcw, commentF_fin] at h; cases h
    · have hc' : isWordF (runF d k).1 = false ∨ ((runF d k).1.text.toList == [36, 40]) = false := by
        cases h1 : isWordF (runF d k).1 with
        | false => exact Or.inl rfl
        | true =>
          cases h2 : ((runF d k).1.text.toList == [36, 40]) with
          | false => exact Or.inr rfl
          | true => exact absurd ⟨h1, h2⟩ hc
      rw [next_plain d k hc'] at h ⊢
      exact runF_fin2 d k hk h

theorem read_ins {T S : ByteArray} {k : Nat} (h : Ins T S k) (j : Nat) (d : Db) (hj : j ≤ k) (h0 : (readF T j d).1 = 0) : readF S j d = (1, k) := by
  have hlt := h.lt
  have hle := h.le
  suffices H : ∀ n j d, j ≤ k → k - j ≤ n → (readF T j d).1 = 0 → readF S j d = (1, k) from H _ j d hj (Nat.le_refl _) h0
  clear hj j d h0
  intro n
  induction n with
  | zero =>
    intro j d hj hn h0
    rcases next_ins h j hj with ⟨_, hz⟩ | en
    · have := nextF_le T j (by omega); omega
    · rw [read_bad S j d (by rw [en]; rfl) (by rw [en]; rfl), en]; rfl
  | succ n ih =>
    intro j d hj hn h0
    rcases next_ins h j hj with ⟨en, hz⟩ | en
    · have nl := nextF_le T j (by omega)
      cases hw : isWordF (nextF T j).1 with
      | true =>
        have nl2 := nl.2.2 hw
        cases ht : ((takeF d (nextF T j).1.text).1 == 0) with
        | true =>
          rw [read_on T j d (by omega) hw ht] at h0
          rw [read_on S j d (by omega) (by rw [en]; exact hw) (by rw [en]; exact ht), en]
          exact ih _ _ (by omega) (by omega) h0
        | false =>
          rw [read_rule T j d hw ht] at h0
          simp only at h0
          rw [h0] at ht; simp at ht
      | false =>
        cases hf : (nextF T j).1.fin with
        | true => have := nextF_fin2 T j (by omega) hf; omega
        | false =>
          rw [read_bad T j d hw hf] at h0
          have := isWordF_not hw hf
          simp only at h0
          rw [h0] at this; simp at this
    · rw [read_bad S j d (by rw [en]; rfl) (by rw [en]; rfl), en]; rfl

end Go.Proofs.Ytkblmflajfomaaa
