import Derived.Test.YtcipkfhpcbddiaaGreatG06
import Derived.Test.YtcipkfhpcbddiaaGreatQPuN
/- Texts with one ending: what is read of it is the same, at other places. No walk. -/
namespace Go.Proofs.YtcipkfhpcbddiaaGreat
open Go.RowKit

/-- From a on s is what s' is from a' on. -/
structure Shf (s s' : ByteArray) (a a' : Nat) : Prop where
  le : a ≤ s.size
  size : s'.size = s.size - a + a'
  same : ∀ k, a ≤ k → k < s.size → byteAt s' (k - a + a') = byteAt s k
def shItem (a a' : Nat) (i : Item) : Item := { i with pos := i.pos - a + a' }

theorem skip_sh {s s' : ByteArray} {a a' : Nat} (h : Shf s s' a a') (k : Nat) (ha : a ≤ k) (hk : k ≤ s.size) : skip s' (k - a + a') = skip s k - a + a' := by
  have hz := h.size
  suffices H : ∀ n k, a ≤ k → k ≤ s.size → s.size - k = n → skip s' (k - a + a') = skip s k - a + a' from H _ k ha hk rfl
  intro n
  induction n with
  | zero =>
    intro k ha hk hn
    rw [skip_off s k (by omega), skip_off s' _ (by omega)]
  | succ n ih =>
    intro k ha hk hn
    have hkl : k < s.size := by omega
    cases hb : blankB (byteAt s k) with
    | true =>
      rw [skip_on s k hkl hb, skip_on s' _ (by omega) (by rw [h.same k ha hkl]; exact hb)]
      have := ih (k + 1) (by omega) (by omega) (by omega)
      rw [show k + 1 - a + a' = k - a + a' + 1 by omega] at this
      exact this
    | false => rw [skip_off s k (by simp [hb]), skip_off s' _ (by rw [h.same k ha hkl]; simp [hb])]
theorem wordE_sh {s s' : ByteArray} {a a' : Nat} (h : Shf s s' a a') (k : Nat) (ha : a ≤ k) (hk : k ≤ s.size) : wordEnd s' (k - a + a') = wordEnd s k - a + a' := by
  have hz := h.size
  suffices H : ∀ n k, a ≤ k → k ≤ s.size → s.size - k = n → wordEnd s' (k - a + a') = wordEnd s k - a + a' from H _ k ha hk rfl
  intro n
  induction n with
  | zero =>
    intro k ha hk hn
    rw [word_off s k (by omega), word_off s' _ (by omega)]
  | succ n ih =>
    intro k ha hk hn
    have hkl : k < s.size := by omega
    by_cases hb : blankB (byteAt s k) = false ∧ plainB (byteAt s k) = true
    · rw [word_on s k hkl hb.1 hb.2, word_on s' _ (by omega) (by rw [h.same k ha hkl]; exact hb.1) (by rw [h.same k ha hkl]; exact hb.2)]
      have := ih (k + 1) (by omega) (by omega) (by omega)
      rw [show k + 1 - a + a' = k - a + a' + 1 by omega] at this
      exact this
    · rw [word_off s k (fun hh => hb ⟨hh.2.1, hh.2.2⟩), word_off s' _ (fun hh => hb (by rw [← h.same k ha hkl]; exact ⟨hh.2.1, hh.2.2⟩))]
theorem extract_sh {s s' : ByteArray} {a a' : Nat} (h : Shf s s' a a') (b z : Nat) (hb : a ≤ b) (hz : z ≤ s.size) : s'.extract (b - a + a') (z - a + a') = s.extract b z := by
  have hs := h.size
  apply ByteArray.ext
  apply Array.ext
  · simp; omega
  · intro i h1 h2
    have hi : b + i < z := by simp at h2; omega
    have := h.same (b + i) (by omega) (by omega)
    rw [show b + i - a + a' = b - a + a' + i by omega, byteAt_of s' _ (by omega), byteAt_of s _ (by omega)] at this
    have e : (s'[b - a + a' + i]'(by omega)).toNat = (s[b + i]'(by omega)).toNat := by omega
    have e2 : (s'[b - a + a' + i]'(by omega)) = (s[b + i]'(by omega)) := UInt8.toNat_inj.1 e
    simpa [ByteArray.getElem_eq_getElem_data] using e2
theorem run_sh {s s' : ByteArray} {a a' : Nat} (h : Shf s s' a a') (k : Nat) (ha : a ≤ k) (hk : k ≤ s.size) : runF s' (k - a + a') = (shItem a a' (runF s k).1, (runF s k).2 - a + a') := by
  have hz := h.size
  have sl := skip_le s k hk
  have wl := wordEnd_le s (skip s k) sl.2
  have es := skip_sh h k ha hk
  have ew := wordE_sh h (skip s k) (by omega) sl.2
  unfold runF
  simp only
  rw [es, ew]
  by_cases h1 : wordEnd s (skip s k) < s.size ∧ blankB (byteAt s (wordEnd s (skip s k))) = false
  · rw [if_pos h1, if_pos ⟨by omega, by rw [h.same _ (by omega) h1.1]; exact h1.2⟩]; rfl
  · rw [if_neg h1, if_neg (by
      rintro ⟨q1, q2⟩
      have hlt : wordEnd s (skip s k) < s.size := by omega
      rw [h.same _ (by omega) hlt] at q2
      exact h1 ⟨hlt, q2⟩)]
    by_cases h2 : wordEnd s (skip s k) ≤ skip s k
    · rw [if_pos h2, if_pos (by omega)]; rfl
    · rw [if_neg h2, if_neg (by omega), extract_sh h _ _ (by omega) wl.2]; rfl
theorem isWord_sh (a a' : Nat) (i : Item) : isWordF (shItem a a' i) = isWordF i := rfl
theorem comment_sh {s s' : ByteArray} {a a' : Nat} (h : Shf s s' a a') (k : Nat) (ha : a ≤ k) (hk : k ≤ s.size) : commentF s' (k - a + a') = (shItem a a' (commentF s k).1, (commentF s k).2 - a + a') := by
  have hz := h.size
  suffices H : ∀ n k, a ≤ k → k ≤ s.size → s.size - k ≤ n → commentF s' (k - a + a') = (shItem a a' (commentF s k).1, (commentF s k).2 - a + a') from H _ k ha hk (Nat.le_refl _)
  clear ha hk k
  intro n
  induction n with
  | zero =>
    intro k ha hk hn
    have rs := run_sh h k ha hk
    have hr : runF s k = (⟨⟨#[]⟩, 0, true, k⟩, k) := runF_no s k (by omega) hk
    have hw : isWordF (runF s k).1 = false := by rw [hr]; rfl
    have hf : (runF s k).1.fin = true := by rw [hr]
    rw [comment_open s k hw hf, comment_open s' _ (by rw [rs]; exact hw) (by rw [rs]; exact hf), rs]; rfl
  | succ n ih =>
    intro k ha hk hn
    have rs := run_sh h k ha hk
    have rl := runF_le s k hk
    cases hw : isWordF (runF s k).1 with
    | true =>
      have rl2 := rl.2.2 hw
      cases hx : ((runF s k).1.text.toList == [36, 41]) with
      | true => rw [comment_close s k hw hx, comment_close s' _ (by rw [rs]; exact hw) (by rw [rs]; exact hx), rs]
      | false =>
        cases hy : bracketF (runF s k).1.text with
        | true => rw [comment_nest s k hw hx hy, comment_nest s' _ (by rw [rs]; exact hw) (by rw [rs]; exact hx) (by rw [rs]; exact hy), rs]; rfl
        | false =>
          rw [comment_on s k hk hw hx hy, comment_on s' _ (by omega) (by rw [rs]; exact hw) (by rw [rs]; exact hx) (by rw [rs]; exact hy), rs]
          exact ih _ (by omega) rl.2.1 (by omega)
    | false =>
      cases hf : (runF s k).1.fin with
      | true => rw [comment_open s k hw hf, comment_open s' _ (by rw [rs]; exact hw) (by rw [rs]; exact hf), rs]; rfl
      | false => rw [comment_bad s k hw hf, comment_bad s' _ (by rw [rs]; exact hw) (by rw [rs]; exact hf), rs]
theorem next_sh {s s' : ByteArray} {a a' : Nat} (h : Shf s s' a a') (k : Nat) (ha : a ≤ k) (hk : k ≤ s.size) : nextF s' (k - a + a') = (shItem a a' (nextF s k).1, (nextF s k).2 - a + a') := by
  have hz := h.size
  suffices H : ∀ n k, a ≤ k → k ≤ s.size → s.size - k ≤ n → nextF s' (k - a + a') = (shItem a a' (nextF s k).1, (nextF s k).2 - a + a') from H _ k ha hk (Nat.le_refl _)
  clear ha hk k
  intro n
  induction n with
  | zero =>
    intro k ha hk hn
    have rs := run_sh h k ha hk
    have hr : runF s k = (⟨⟨#[]⟩, 0, true, k⟩, k) := runF_no s k (by omega) hk
    have hw : isWordF (runF s k).1 = false := by rw [hr]; rfl
    rw [next_plain s k (Or.inl hw), next_plain s' _ (Or.inl (by rw [rs]; exact hw)), rs]
  | succ n ih =>
    intro k ha hk hn
    have rs := run_sh h k ha hk
    have rl := runF_le s k hk
    by_cases hc : isWordF (runF s k).1 = true ∧ ((runF s k).1.text.toList == [36, 40]) = true
    · have rl2 := rl.2.2 hc.1
      have cs := comment_sh h (runF s k).2 (by omega) rl.2.1
      have cl := commentF_le s (runF s k).2 rl.2.1
      cases hcw : isWordF (commentF s (runF s k).2).1 with
      | true =>
        rw [next_on s k hk hc.1 hc.2 hcw, next_on s' _ (by omega) (by rw [rs]; exact hc.1) (by rw [rs]; exact hc.2) (by rw [rs]; simp only; rw [cs]; exact hcw), rs]
        simp only
        rw [cs]
        exact ih _ (by omega) cl.2 (by omega)
      | false =>
        rw [next_broken s k hc.1 hc.2 hcw, next_broken s' _ (by rw [rs]; exact hc.1) (by rw [rs]; exact hc.2) (by rw [rs]; simp only; rw [cs]; exact hcw), rs]
        exact cs
    · have hc' : isWordF (runF s k).1 = false ∨ ((runF s k).1.text.toList == [36, 40]) = false := by
        cases h1 : isWordF (runF s k).1 with
        | false => exact Or.inl rfl
        | true =>
          cases h2 : ((runF s k).1.text.toList == [36, 40]) with
          | false => exact Or.inr rfl
          | true => exact absurd ⟨h1, h2⟩ hc
      rw [next_plain s k hc', next_plain s' _ (by rw [rs]; exact hc'), rs]

theorem line_sh {s s' : ByteArray} {a a' : Nat} (h : Shf s s' a a') (hc : colAt s' a' = colAt s a) (k : Nat) (ha : a ≤ k) (hk : k ≤ s.size) : lineAt s' (k - a + a') = lineAt s k + (lineAt s' a' - lineAt s a) ∧ colAt s' (k - a + a') = colAt s k := by
  induction k with
  | zero =>
    have : a = 0 := by omega
    subst this
    simp only [Nat.sub_zero, Nat.zero_add]
    exact ⟨by omega, hc⟩
  | succ k ih =>
    by_cases e : a = k + 1
    · subst e
      rw [Nat.sub_self, Nat.zero_add]
      exact ⟨by omega, hc⟩
    · have i := ih (by omega) (by omega)
      rw [show k + 1 - a + a' = k - a + a' + 1 by omega, lineAt, lineAt, colAt, colAt, h.same k (by omega) (by omega), i.1, i.2]
      refine ⟨?_, rfl⟩
      split <;> omega

theorem takeF_len (d : Db) (x : ByteArray) (p : Pl) : d.sts.length ≤ (takeF d x p).2.sts.length := by
  rcases take_sts d x p with e | ⟨y, _, e⟩ | ⟨e, _⟩
  · rw [e]; exact Nat.le_refl _
  · rw [e, endSts_length]; exact Nat.le_refl _
  · rw [e, List.length_append]; omega
def shQ (a a' : Nat) (q : Int × Nat) : Int × Nat := if (q.1 == 0) = true then q else (q.1, q.2 - a + a')

theorem read_sh {s s' : ByteArray} {a a' : Nat} (h : Shf s s' a a') (n n' : ByteArray) (π : Nat → Pl → Pl) (n0 : Nat) (hπ : ∀ q, a ≤ q → q ≤ s.size → ∀ i, n0 ≤ i → π i (plAt n s q) = plAt n' s' (q - a + a')) (k : Nat) (d : Db) (ha : a ≤ k) (hk : k ≤ s.size) (hd : n0 ≤ d.sts.length) (hl : NoLeft d) :
    readF n' s' (k - a + a') (mapDb π d) = (shQ a a' (readF n s k d).1, mapDb π (readF n s k d).2) := by
  have hz := h.size
  suffices H : ∀ m k d, a ≤ k → k ≤ s.size → s.size - k ≤ m → n0 ≤ d.sts.length → NoLeft d → readF n' s' (k - a + a') (mapDb π d) = (shQ a a' (readF n s k d).1, mapDb π (readF n s k d).2) from H _ k d ha hk (Nat.le_refl _) hd hl
  clear ha hk hd hl k d
  have word : ∀ k d, a ≤ k → k ≤ s.size → n0 ≤ d.sts.length → NoLeft d → isWordF (nextF s k).1 = true → takeF (mapDb π d) (nextF s' (k - a + a')).1.text (plAt n' s' (nextF s' (k - a + a')).1.pos) = ((takeF d (nextF s k).1.text (plAt n s (nextF s k).1.pos)).1, mapDb π (takeF d (nextF s k).1.text (plAt n s (nextF s k).1.pos)).2) := by
    intro k d ha hk hd hl hw
    have np := nextF_pos s k hk
    rw [next_sh h k ha hk, ← take_map π d hl, hπ _ (by omega) np.2 _ hd]
    rfl
  have stop : ∀ k d, a ≤ k → k ≤ s.size → isWordF (nextF s k).1 = false → readF n' s' (k - a + a') (mapDb π d) = (shQ a a' (readF n s k d).1, mapDb π (readF n s k d).2) := by
    intro k d ha hk hw
    have ns := next_sh h k ha hk
    have hw' : isWordF (nextF s' (k - a + a')).1 = false := by rw [ns]; exact hw
    cases hf : (nextF s k).1.fin with
    | true =>
      have hf' : (nextF s' (k - a + a')).1.fin = true := by rw [ns]; exact hf
      cases ho : openF d with
      | true => rw [read_open n s k d hw hf ho, read_open n' s' _ (mapDb π d) hw' hf' (show openF (mapDb π d) = true from ho), ns]; rfl
      | false => rw [read_end n s k d hw hf ho, read_end n' s' _ (mapDb π d) hw' hf' (show openF (mapDb π d) = false from ho)]; rfl
    | false =>
      have hf' : (nextF s' (k - a + a')).1.fin = false := by rw [ns]; exact hf
      have hr := isWordF_not hw hf
      rw [read_bad n s k d hw hf, read_bad n' s' _ _ hw' hf', ns]
      unfold shQ
      simp only [hr]
      rfl
  intro m
  induction m with
  | zero =>
    intro k d ha hk hm hd hl
    have nl := nextF_le s k hk
    cases hw : isWordF (nextF s k).1 with
    | true => have := nl.2.2 hw; omega
    | false => exact stop k d ha hk hw
  | succ m ih =>
    intro k d ha hk hm hd hl
    have nl := nextF_le s k hk
    cases hw : isWordF (nextF s k).1 with
    | false => exact stop k d ha hk hw
    | true =>
      have nl2 := nl.2.2 hw
      have ns := next_sh h k ha hk
      have wd := word k d ha hk hd hl hw
      have hw' : isWordF (nextF s' (k - a + a')).1 = true := by rw [ns]; exact hw
      cases ht : ((takeF d (nextF s k).1.text (plAt n s (nextF s k).1.pos)).1 == 0) with
      | true =>
        rw [read_on n s k d hk hw ht, read_on n' s' _ _ (by omega) hw' (by rw [wd]; exact ht), wd, ns]
        exact ih _ _ (by omega) nl.2.1 (by omega) (Nat.le_trans hd (takeF_len _ _ _)) (noLeft_take hl _ _)
      | false =>
        rw [read_rule n s k d hw ht, read_rule n' s' _ _ hw' (by rw [wd]; exact ht), wd, ns]
        unfold shQ
        simp only [ht]
        rfl

end Go.Proofs.YtcipkfhpcbddiaaGreat
