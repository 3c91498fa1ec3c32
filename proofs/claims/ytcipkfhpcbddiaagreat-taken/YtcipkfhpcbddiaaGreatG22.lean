/- Our texts: PuS, PuT, Fnd, Nam2, Fr1, Spl, Fr2, Fr3. -/
import Derived.Test.YtcipkfhpcbddiaaGreatG09
import Derived.Test.YtcipkfhpcbddiaaGreatG10
import Derived.Test.YtcipkfhpcbddiaaGreatG11
import Derived.Test.YtcipkfhpcbddiaaGreatG13
import Derived.Test.YtcipkfhpcbddiaaGreatG20
import Derived.Test.YtcipkfhpcbddiaaGreatG21
/- Texts with one ending: what is read of it is the same, at other places. No walk. -/
namespace Go.Proofs.YtcipkfhpcbddiaaGreat
open Go.RowKit

/-- From a on s is what s' is from a' on. -/
structure Shf (s s' : ByteArray) (a a' : Nat) : Prop where
  le : a ≤ s.size
  size : s'.size = s.size - a + a'
  same : ∀ k, a ≤ k → k < s.size → byteAt s' (k - a + a') = byteAt s k
def shItem (a a' : Nat) (i : Item) : Item := { i with pos := i.pos - a + a' }

theorem skip_sh {s s' : ByteArray} {a a' : Nat} (h : Shf s s' a a') (k : Nat) (ha : a ≤ k) (hk : k ≤ s.size) : skip s' (k - a + a') = skip s k - a + a' := by
  have hz := h.size
  suffices H : ∀ n k, a ≤ k → k ≤ s.size → s.size - k = n → skip s' (k - a + a') = skip s k - a + a' from H _ k ha hk rfl
  intro n
  induction n with
  | zero =>
    intro k ha hk hn
    rw [skip_off s k (by omega), skip_off s' _ (by omega)]
  | succ n ih =>
    intro k ha hk hn
    have hkl : k < s.size := by omega
    cases hb : blankB (byteAt s k) with
    | true =>
      rw [skip_on s k hkl hb, skip_on s' _ (by omega) (by rw [h.same k ha hkl]; exact hb)]
      have := ih (k + 1) (by omega) (by omega) (by omega)
      rw [show k + 1 - a + a' = k - a + a' + 1 by omega] at this
      exact this
    | false => rw [skip_off s k (by simp [hb]), skip_off s' _ (by rw [h.same k ha hkl]; simp [hb])]
theorem wordE_sh {s s' : ByteArray} {a a' : Nat} (h : Shf s s' a a') (k : Nat) (ha : a ≤ k) (hk : k ≤ s.size) : wordEnd s' (k - a + a') = wordEnd s k - a + a' := by
  have hz := h.size
  suffices H : ∀ n k, a ≤ k → k ≤ s.size → s.size - k = n → wordEnd s' (k - a + a') = wordEnd s k - a + a' from H _ k ha hk rfl
  intro n
  induction n with
  | zero =>
    intro k ha hk hn
    rw [word_off s k (by omega), word_off s' _ (by omega)]
  | succ n ih =>
    intro k ha hk hn
    have hkl : k < s.size := by omega
    by_cases hb : blankB (byteAt s k) = false ∧ plainB (byteAt s k) = true
    · rw [word_on s k hkl hb.1 hb.2, word_on s' _ (by omega) (by rw [h.same k ha hkl]; exact hb.1) (by rw [h.same k ha hkl]; exact hb.2)]
      have := ih (k + 1) (by omega) (by omega) (by omega)
      rw [show k + 1 - a + a' = k - a + a' + 1 by omega] at this
      exact this
    · rw [word_off s k (fun hh => hb ⟨hh.2.1, hh.2.2⟩), word_off s' _ (fun hh => hb (by rw [← h.same k ha hkl]; exact ⟨hh.2.1, hh.2.2⟩))]
theorem extract_sh {s s' : ByteArray} {a a' : Nat} (h : Shf s s' a a') (b z : Nat) (hb : a ≤ b) (hz : z ≤ s.size) : s'.extract (b - a + a') (z - a + a') = s.extract b z := by
  have hs := h.size
  apply ByteArray.ext
  apply Array.ext
  · simp; omega
  · intro i h1 h2
    have hi : b + i < z := by simp at h2; omega
    have := h.same (b + i) (by omega) (by omega)
    rw [show b + i - a + a' = b - a + a' + i by omega, byteAt_of s' _ (by omega), byteAt_of s _ (by omega)] at this
    have e : (s'[b - a + a' + i]'(by omega)).toNat = (s[b + i]'(by omega)).toNat := by omega
    have e2 : (s'[b - a + a' + i]'(by omega)) = (s[b + i]'(by omega)) := UInt8.toNat_inj.1 e
    simpa [ByteArray.getElem_eq_getElem_data] using e2
theorem run_sh {s s' : ByteArray} {a a' : Nat} (h : Shf s s' a a') (k : Nat) (ha : a ≤ k) (hk : k ≤ s.size) : runF s' (k - a + a') = (shItem a a' (runF s k).1, (runF s k).2 - a + a') := by
  have hz := h.size
  have sl := skip_le s k hk
  have wl := wordEnd_le s (skip s k) sl.2
  have es := skip_sh h k ha hk
  have ew := wordE_sh h (skip s k) (by omega) sl.2
  unfold runF
  simp only
  rw [es, ew]
  by_cases h1 : wordEnd s (skip s k) < s.size ∧ blankB (byteAt s (wordEnd s (skip s k))) = false
  · rw [if_pos h1, if_pos ⟨by omega, by rw [h.same _ (by omega) h1.1]; exact h1.2⟩]; rfl
  · rw [if_neg h1, if_neg (by
      rintro ⟨q1, q2⟩
      have hlt : wordEnd s (skip s k) < s.size := by omega
      rw [h.same _ (by omega) hlt] at q2
      exact h1 ⟨hlt, q2⟩)]
    by_cases h2 : wordEnd s (skip s k) ≤ skip s k
    · rw [if_pos h2, if_pos (by omega)]; rfl
    · rw [if_neg h2, if_neg (by omega), extract_sh h _ _ (by omega) wl.2]; rfl
theorem isWord_sh (a a' : Nat) (i : Item) : isWordF (shItem a a' i) = isWordF i := rfl
theorem comment_sh {s s' : ByteArray} {a a' : Nat} (h : Shf s s' a a') (k : Nat) (ha : a ≤ k) (hk : k ≤ s.size) : commentF s' (k - a + a') = (shItem a a' (commentF s k).1, (commentF s k).2 - a + a') := by
  have hz := h.size
  suffices H : ∀ n k, a ≤ k → k ≤ s.size → s.size - k ≤ n → commentF s' (k - a + a') = (shItem a a' (commentF s k).1, (commentF s k).2 - a + a') from H _ k ha hk (Nat.le_refl _)
  clear ha hk k
  intro n
  induction n with
  | zero =>
    intro k ha hk hn
    have rs := run_sh h k ha hk
    have hr : runF s k = (⟨⟨#[]⟩, 0, true, k⟩, k) := runF_no s k (by omega) hk
    have hw : isWordF (runF s k).1 = false := by rw [hr]; rfl
    have hf : (runF s k).1.fin = true := by rw [hr]
    rw [comment_open s k hw hf, comment_open s' _ (by rw [rs]; exact hw) (by rw [rs]; exact hf), rs]; rfl
  | succ n ih =>
    intro k ha hk hn
    have rs := run_sh h k ha hk
    have rl := runF_le s k hk
    cases hw : isWordF (runF s k).1 with
    | true =>
      have rl2 := rl.2.2 hw
      cases hx : ((runF s k).1.text.toList == [36, 41]) with
      | true => rw [comment_close s k hw hx, comment_close s' _ (by rw [rs]; exact hw) (by rw [rs]; exact hx), rs]
      | false =>
        cases hy : bracketF (runF s k).1.text with
        | true => rw [comment_nest s k hw hx hy, comment_nest s' _ (by rw [rs]; exact hw) (by rw [rs]; exact hx) (by rw [rs]; exact hy), rs]; rfl
        | false =>
          rw [comment_on s k hk hw hx hy, comment_on s' _ (by omega) (by rw [rs]; exact hw) (by rw [rs]; exact hx) (by rw [rs]; exact hy), rs]
          exact ih _ (by omega) rl.2.1 (by omega)
    | false =>
      cases hf : (runF s k).1.fin with
      | true => rw [comment_open s k hw hf, comment_open s' _ (by rw [rs]; exact hw) (by rw [rs]; exact hf), rs]; rfl
      | false => rw [comment_bad s k hw hf, comment_bad s' _ (by rw [rs]; exact hw) (by rw [rs]; exact hf), rs]
theorem next_sh {s s' : ByteArray} {a a' : Nat} (h : Shf s s' a a') (k : Nat) (ha : a ≤ k) (hk : k ≤ s.size) : nextF s' (k - a + a') = (shItem a a' (nextF s k).1, (nextF s k).2 - a + a') := by
  have hz := h.size
  suffices H : ∀ n k, a ≤ k → k ≤ s.size → s.size - k ≤ n → nextF s' (k - a + a') = (shItem a a' (nextF s k).1, (nextF s k).2 - a + a') from H _ k ha hk (Nat.le_refl _)
  clear ha hk k
  intro n
  induction n with
  | zero =>
    intro k ha hk hn
    have rs := run_sh h k ha hk
    have hr : runF s k = (⟨⟨#[]⟩, 0, true, k⟩, k) := runF_no s k (by omega) hk
    have hw : isWordF (runF s k).1 = false := by rw [hr]; rfl
    rw [next_plain s k (Or.inl hw), next_plain s' _ (Or.inl (by rw [rs]; exact hw)), rs]
  | succ n ih =>
    intro k ha hk hn
    have rs := run_sh h k ha hk
    have rl := runF_le s k hk
    by_cases hc : isWordF (runF s k).1 = true ∧ ((runF s k).1.text.toList == [36, 40]) = true
    · have rl2 := rl.2.2 hc.1
      have cs := comment_sh h (runF s k).2 (by omega) rl.2.1
      have cl := commentF_le s (runF s k).2 rl.2.1
      cases hcw : isWordF (commentF s (runF s k).2).1 with
      | true =>
        rw [next_on s k hk hc.1 hc.2 hcw, next_on s' _ (by omega) (by rw [rs]; exact hc.1) (by rw [rs]; exact hc.2) (by rw [rs]; simp only; rw [cs]; exact hcw), rs]
        simp only
        rw [cs]
        exact ih _ (by omega) cl.2 (by omega)
      | false =>
        rw [next_broken s k hc.1 hc.2 hcw, next_broken s' _ (by rw [rs]; exact hc.1) (by rw [rs]; exact hc.2) (by rw [rs]; simp only; rw [cs]; exact hcw), rs]
        exact cs
    · have hc' : isWordF (runF s k).1 = false ∨ ((runF s k).1.text.toList == [36, 40]) = false := by
        cases h1 : isWordF (runF s k).1 with
        | false => exact Or.inl rfl
        | true =>
          cases h2 : ((runF s k).1.text.toList == [36, 40]) with
          | false => exact Or.inr rfl
          | true => exact absurd ⟨h1, h2⟩ hc
      rw [next_plain s k hc', next_plain s' _ (by rw [rs]; exact hc'), rs]

theorem line_sh {s s' : ByteArray} {a a' : Nat} (h : Shf s s' a a') (hc : colAt s' a' = colAt s a) (k : Nat) (ha : a ≤ k) (hk : k ≤ s.size) : lineAt s' (k - a + a') = lineAt s k + (lineAt s' a' - lineAt s a) ∧ colAt s' (k - a + a') = colAt s k := by
  induction k with
  | zero =>
    have : a = 0 := by omega
    subst this
    simp only [Nat.sub_zero, Nat.zero_add]
    exact ⟨by omega, hc⟩
  | succ k ih =>
    by_cases e : a = k + 1
    · subst e
      rw [Nat.sub_self, Nat.zero_add]
      exact ⟨by omega, hc⟩
    · have i := ih (by omega) (by omega)
      rw [show k + 1 - a + a' = k - a + a' + 1 by omega, lineAt, lineAt, colAt, colAt, h.same k (by omega) (by omega), i.1, i.2]
      refine ⟨?_, rfl⟩
      split <;> omega

theorem takeF_len (d : Db) (x : ByteArray) (p : Pl) : d.sts.length ≤ (takeF d x p).2.sts.length := by
  rcases take_sts d x p with e | ⟨y, _, e⟩ | ⟨e, _⟩
  · rw [e]; exact Nat.le_refl _
  · rw [e, endSts_length]; exact Nat.le_refl _
  · rw [e, List.length_append]; omega
def shQ (a a' : Nat) (q : Int × Nat) : Int × Nat := if (q.1 == 0) = true then q else (q.1, q.2 - a + a')

theorem read_sh {s s' : ByteArray} {a a' : Nat} (h : Shf s s' a a') (n n' : ByteArray) (π : Nat → Pl → Pl) (n0 : Nat) (hπ : ∀ q, a ≤ q → q ≤ s.size → ∀ i, n0 ≤ i → π i (plAt n s q) = plAt n' s' (q - a + a')) (k : Nat) (d : Db) (ha : a ≤ k) (hk : k ≤ s.size) (hd : n0 ≤ d.sts.length) (hl : NoLeft d) :
    readF n' s' (k - a + a') (mapDb π d) = (shQ a a' (readF n s k d).1, mapDb π (readF n s k d).2) := by
  have hz := h.size
  suffices H : ∀ m k d, a ≤ k → k ≤ s.size → s.size - k ≤ m → n0 ≤ d.sts.length → NoLeft d → readF n' s' (k - a + a') (mapDb π d) = (shQ a a' (readF n s k d).1, mapDb π (readF n s k d).2) from H _ k d ha hk (Nat.le_refl _) hd hl
  clear ha hk hd hl k d
  have word : ∀ k d, a ≤ k → k ≤ s.size → n0 ≤ d.sts.length → NoLeft d → isWordF (nextF s k).1 = true → takeF (mapDb π d) (nextF s' (k - a + a')).1.text (plAt n' s' (nextF s' (k - a + a')).1.pos) = ((takeF d (nextF s k).1.text (plAt n s (nextF s k).1.pos)).1, mapDb π (takeF d (nextF s k).1.text (plAt n s (nextF s k).1.pos)).2) := by
    intro k d ha hk hd hl hw
    have np := nextF_pos s k hk
    rw [next_sh h k ha hk, ← take_map π d hl, hπ _ (by omega) np.2 _ hd]
    rfl
  have stop : ∀ k d, a ≤ k → k ≤ s.size → isWordF (nextF s k).1 = false → readF n' s' (k - a + a') (mapDb π d) = (shQ a a' (readF n s k d).1, mapDb π (readF n s k d).2) := by
    intro k d ha hk hw
    have ns := next_sh h k ha hk
    have hw' : isWordF (nextF s' (k - a + a')).1 = false := by rw [ns]; exact hw
    cases hf : (nextF s k).1.fin with
    | true =>
      have hf' : (nextF s' (k - a + a')).1.fin = true := by rw [ns]; exact hf
      cases ho : openF d with
      | true => rw [read_open n s k d hw hf ho, read_open n' s' _ (mapDb π d) hw' hf' (show openF (mapDb π d) = true from ho), ns]; rfl
      | false => rw [read_end n s k d hw hf ho, read_end n' s' _ (mapDb π d) hw' hf' (show openF (mapDb π d) = false from ho)]; rfl
    | false =>
      have hf' : (nextF s' (k - a + a')).1.fin = false := by rw [ns]; exact hf
      have hr := isWordF_not hw hf
      rw [read_bad n s k d hw hf, read_bad n' s' _ _ hw' hf', ns]
      unfold shQ
      simp only [hr]
      rfl
  intro m
  induction m with
  | zero =>
    intro k d ha hk hm hd hl
    have nl := nextF_le s k hk
    cases hw : isWordF (nextF s k).1 with
    | true => have := nl.2.2 hw; omega
    | false => exact stop k d ha hk hw
  | succ m ih =>
    intro k d ha hk hm hd hl
    have nl := nextF_le s k hk
    cases hw : isWordF (nextF s k).1 with
    | false => exact stop k d ha hk hw
    | true =>
      have nl2 := nl.2.2 hw
      have ns := next_sh h k ha hk
      have wd := word k d ha hk hd hl hw
      have hw' : isWordF (nextF s' (k - a + a')).1 = true := by rw [ns]; exact hw
      cases ht : ((takeF d (nextF s k).1.text (plAt n s (nextF s k).1.pos)).1 == 0) with
      | true =>
        rw [read_on n s k d hk hw ht, read_on n' s' _ _ (by omega) hw' (by rw [wd]; exact ht), wd, ns]
        exact ih _ _ (by omega) nl.2.1 (by omega) (Nat.le_trans hd (takeF_len _ _ _)) (noLeft_take hl _ _)
      | false =>
        rw [read_rule n s k d hw ht, read_rule n' s' _ _ hw' (by rw [wd]; exact ht), wd, ns]
        unfold shQ
        simp only [ht]
        rfl

end Go.Proofs.YtcipkfhpcbddiaaGreat

/- Parted: a comment between, or the text in a file of its own. No walk. -/
namespace Go.Proofs.YtcipkfhpcbddiaaGreat
open Go.RowKit

theorem readGo_congr (fs : List (ByteArray × ByteArray)) (f x k j : Nat) (bg : List Bool) (d : Db) (h : nextF (fileDt fs x) k = nextF (fileDt fs x) j) : readGo fs f x k bg d = readGo fs f x j bg d := by
  cases f with
  | zero => rfl
  | succ f => rw [readGo, readGo, h]
theorem step_plain (fs : List (ByteArray × ByteArray)) (f x k : Nat) (bg : List Bool) (d : Db) (hn : ((nextF (fileDt fs x) k).1.text.toList == [36, 91]) = false) :
    stepR fs f x k bg d = ((if ((takeF d (nextF (fileDt fs x) k).1.text (plAt (fileNm fs x) (fileDt fs x) (nextF (fileDt fs x) k).1.pos)).1 == 0) = true then noFlt else ((takeF d (nextF (fileDt fs x) k).1.text (plAt (fileNm fs x) (fileDt fs x) (nextF (fileDt fs x) k).1.pos)).1, plAt (fileNm fs x) (fileDt fs x) (nextF (fileDt fs x) k).1.pos), bg, (takeF d (nextF (fileDt fs x) k).1.text (plAt (fileNm fs x) (fileDt fs x) (nextF (fileDt fs x) k).1.pos)).2), (nextF (fileDt fs x) k).2) := by
  unfold stepR wordR
  rw [hn]; simp
/-- As go_plain, where no word is an inclusion from a place on. -/
theorem go_from (fs : List (ByteArray × ByteArray)) (x a : Nat) (hni : ∀ k, a ≤ k → k ≤ (fileDt fs x).size → isWordF (nextF (fileDt fs x) k).1 = true → ((nextF (fileDt fs x) k).1.text.toList == [36, 91]) = false) (f : Nat) : ∀ k bg d, a ≤ k → k ≤ (fileDt fs x).size → (fileDt fs x).size - k + 1 ≤ f →
    readGo fs f x k bg d = (fltOf (fileNm fs x) (fileDt fs x) (readF (fileNm fs x) (fileDt fs x) k d).1, bg, (readF (fileNm fs x) (fileDt fs x) k d).2) := by
  induction f with
  | zero => intro k bg d ha hk hf; omega
  | succ f ih =>
    intro k bg d ha hk hf
    have hl := nextF_le (fileDt fs x) k hk
    cases h1 : isWordF (nextF (fileDt fs x) k).1 with
    | true =>
      have hl2 := hl.2.2 h1
      have es := step_plain fs f x k bg d (hni k ha hk h1)
      cases h2 : ((takeF d (nextF (fileDt fs x) k).1.text (plAt (fileNm fs x) (fileDt fs x) (nextF (fileDt fs x) k).1.pos)).1 == 0) with
      | true =>
        rw [go_on fs f x k bg d h1 (by rw [es, h2]; rfl), es, ih _ _ _ (by omega) hl.2.1 (by omega), ← read_on _ _ k d hk h1 h2]
      | false =>
        rw [go_stop fs f x k bg d h1 (by rw [es, h2]; simpa using h2), es, read_rule _ _ k d h1 h2]
        simp only [fltOf, h2]
    | false =>
      cases h2 : (nextF (fileDt fs x) k).1.fin with
      | true =>
        cases h3 : openF d with
        | false => rw [go_end fs f x k bg d h1 h2 h3, read_end _ _ k d h1 h2 h3]; rfl
        | true => rw [go_bad fs f x k bg d h1 (by simp [h3]), read_open _ _ k d h1 h2 h3]; simp [fltOf, itemFlt, h2]
      | false =>
        have h4 := isWordF_not h1 h2
        rw [go_bad fs f x k bg d h1 (by simp [h2]), read_bad _ _ k d h1 h2]; simp [fltOf, itemFlt, h2, h4]
/-- A text at a file's beginning: the reading goes on behind it. -/
theorem go_pre (fs : List (ByteArray × ByteArray)) (x : Nat) (T : ByteArray) (hp : Pre T (fileDt fs x)) (hni : NoInc T) : ∀ n f k bg d, T.size - k ≤ n → k ≤ T.size → (readF (fileNm fs x) T k d).1.1 = 0 → T.size - k + 1 ≤ f →
    ∃ f', f ≤ f' + (T.size - k) ∧ readGo fs f x k bg d = readGo fs f' x (T.size + 1) bg (readF (fileNm fs x) T k d).2 := by
  have hlt := hp.lt
  intro n
  induction n with
  | zero =>
    intro f k bg d hn hk h0 hf
    have e : k = T.size := by omega
    subst e
    have hr : runF T T.size = (⟨⟨#[]⟩, 0, true, T.size⟩, T.size) := runF_no T T.size (Nat.le_refl _) (Nat.le_refl _)
    have hn' : nextF T T.size = runF T T.size := next_plain T _ (Or.inl (by rw [hr]; rfl))
    have np := next_pre hp T.size (Nat.le_refl _) (by rw [hn', hr]; simp)
    have hw : isWordF (nextF T T.size).1 = false := by rw [hn', hr]; rfl
    have hfn : (nextF T T.size).1.fin = true := by rw [hn', hr]
    cases ho : openF d with
    | true => rw [read_open _ T _ d hw hfn ho] at h0; simp at h0
    | false => rw [read_end _ T _ d hw hfn ho]; exact ⟨f, by omega, readGo_congr fs f x _ _ bg d (np.2 hfn)⟩
  | succ n ih =>
    intro f k bg d hn hk h0 hf
    have nl := nextF_le T k hk
    cases hw : isWordF (nextF T k).1 with
    | true =>
      have np := next_pre hp k hk (by rw [isWordF_eq hw]; simp)
      have hfn : (nextF T k).1.fin = false := by rw [isWordF_eq hw]
      have en := np.1 hfn
      have nl2 := nl.2.2 hw
      have ep := plAt_pre hp (fileNm fs x) (nextF T k).1.pos (nextF_pos T k hk).2
      cases ht : ((takeF d (nextF T k).1.text (plAt (fileNm fs x) T (nextF T k).1.pos)).1 == 0) with
      | true =>
        rw [read_on _ T k d hk hw ht] at h0 ⊢
        cases f with
        | zero => omega
        | succ f =>
          have es := step_plain fs f x k bg d (by rw [en]; exact hni k hk hw)
          rw [en, ep, ht] at es
          obtain ⟨f', h1, h2⟩ := ih f (nextF T k).2 bg (takeF d (nextF T k).1.text (plAt (fileNm fs x) T (nextF T k).1.pos)).2 (by omega) nl.2.1 h0 (by omega)
          refine ⟨f', by omega, ?_⟩
          rw [go_on fs f x k bg d (by rw [en]; exact hw) (by rw [es]; rfl), es]
          exact h2
      | false =>
        rw [read_rule _ T k d hw ht] at h0
        simp only at h0
        rw [h0] at ht; simp at ht
    | false =>
      cases hfn : (nextF T k).1.fin with
      | true =>
        cases ho : openF d with
        | true => rw [read_open _ T k d hw hfn ho] at h0; simp at h0
        | false =>
          have h3 : (nextF T k).1.rule ≠ 3 := by rw [nextF_fin T k hfn]; simp
          rw [read_end _ T k d hw hfn ho]
          exact ⟨f, by omega, readGo_congr fs f x _ _ bg d ((next_pre hp k hk h3).2 hfn)⟩
      | false =>
        rw [read_bad _ T k d hw hfn] at h0
        have := isWordF_not hw hfn
        simp only at h0
        rw [h0] at this; simp at this

/-- A line moved. -/
def πL (δ : Int) (p : Pl) : Pl := if (p.file.toList == []) = true then p else { p with line := p.line + δ }
/-- The file's name changed. -/
def πF (p : Pl) : Pl := if (p.file.toList == []) = true then p else { p with file := ⟨#[105]⟩ }
theorem πL_map (δ : Int) : Pmap (πL δ) := by
  refine ⟨?_, ?_, ?_⟩
  · unfold πL noPl; rw [if_pos (by decide +kernel)]
  · intro p c; unfold πL; simp only; split <;> rfl
  · intro p; unfold πL; split <;> rfl
theorem πF_map : Pmap πF := by
  refine ⟨?_, ?_, ?_⟩
  · unfold πF noPl; rw [if_pos (by decide +kernel)]
  · intro p c; unfold πF; simp only; split <;> rfl
  · intro p; unfold πF; split <;> rfl
theorem id_map : Pmap (fun p => p) := ⟨rfl, fun _ _ => rfl, fun _ => rfl⟩
theorem mapSt_id (s : St) : mapSt (fun p => p) s = s := by
  unfold mapSt mapWd
  simp
theorem mapSts_two (π₁ π₂ : Pl → Pl) (l : List St) : mapSts (fun i => if i < l.length then π₁ else π₂) l = l.map (mapSt π₁) := by
  apply List.ext_getElem?
  intro i
  rw [mapSts_get, List.getElem?_map]
  rcases Nat.lt_or_ge i l.length with h | h
  · rw [if_pos h]
  · rw [List.getElem?_eq_none h]; rfl
theorem mapSts_const (π : Pl → Pl) (l : List St) : mapSts (fun _ => π) l = l.map (mapSt π) := by
  apply List.ext_getElem?
  intro i
  rw [mapSts_get, List.getElem?_map]
theorem noLeft_empty : NoLeft emptyDb := fun _ => rfl
theorem noLeft_read (n s : ByteArray) (f : Nat) : ∀ k d, NoLeft d → NoLeft (readTo n s f k d).2 := by
  induction f with
  | zero => intro k d h; exact h
  | succ f ih =>
    intro k d h
    rw [readTo]
    split
    · split
      · exact ih _ _ (noLeft_take h _ _)
      · exact noLeft_take h _ _
    · split
      · split <;> exact h
      · exact h
/-- What a text leaves that is well-formed. -/
theorem Fine.left {T : ByteArray} (h : Fine T) : openF (rdM T).2 = false ∧ (rdM T).2.proof = [] ∧ NoLeft (rdM T).2 := by
  have nl : NoLeft (rdM T).2 := noLeft_read ⟨#[109]⟩ T _ 0 emptyDb noLeft_empty
  have ho : openF (rdM T).2 = false := (read_pre (pre_of T ⟨#[]⟩) ⟨#[109]⟩ 0 emptyDb (Nat.zero_le _) h.ok).1
  refine ⟨ho, nl ?_, nl⟩
  unfold openF at ho
  simp only [Bool.or_eq_false_iff] at ho
  simpa using ho.1
theorem map_closed (π₁ π₂ : Pl → Pl) (d : Db) (h : d.proof = []) : mapDb (fun i => if i < d.sts.length then π₁ else π₂) d = { d with sts := d.sts.map (mapSt π₁) } := by
  rw [mapDb_closed _ d h, mapSts_two]

/-- The chunk behind the text, in U at T's end, in V elsewhere. -/
structure Tail (T c V : ByteArray) (a' : Nat) : Prop where
  size : V.size = a' + c.size
  same : ∀ i, i < c.size → byteAt V (a' + i) = byteAt c i
theorem tail_shf (T c V : ByteArray) (a' : Nat) (h : Tail T c V a') : Shf (T ++ ⟨#[10]⟩ ++ c) V (T.size + 1) a' ∧ Shf c V 0 a' := by
  have sz : (T ++ ⟨#[10]⟩ ++ c).size = T.size + 1 + c.size := by rw [ByteArray.size_append, ByteArray.size_append, lf_size]
  refine ⟨⟨by omega, by rw [h.size]; omega, fun k hk hl => ?_⟩, ⟨by omega, by rw [h.size]; omega, fun k hk hl => ?_⟩⟩
  · obtain ⟨i, rfl⟩ : ∃ i, k = T.size + 1 + i := ⟨k - (T.size + 1), by omega⟩
    rw [pre_right T c i (by omega), show T.size + 1 + i - (T.size + 1) + a' = a' + i by omega, h.same i (by omega)]
  · rw [show k - 0 + a' = a' + k by omega, h.same k hl]
theorem tail_noInc (T c V : ByteArray) (a' : Nat) (h : Tail T c V a') (hc : holdsF c = false) : ∀ k, a' ≤ k → k ≤ V.size → isWordF (nextF V k).1 = true → ((nextF V k).1.text.toList == [36, 91]) = false := by
  intro k hk hl hw
  have s := (tail_shf T c V a' h).2
  have e := next_sh s (k - a') (Nat.zero_le _) (by have := h.size; omega)
  rw [show k - a' - 0 + a' = k by omega] at e
  rw [e] at hw ⊢
  exact noInc_of c hc (k - a') (by have := h.size; omega) hw
theorem line_U (T c : ByteArray) : lineAt (T ++ ⟨#[10]⟩ ++ c) (T.size + 1) = lineAt T T.size + 1 ∧ colAt (T ++ ⟨#[10]⟩ ++ c) (T.size + 1) = 1 := by
  have pr := pre_of T c
  rw [lineAt, colAt, pr.lf, (line_pre pr T.size (Nat.le_refl _)).1]
  exact ⟨by simp, by simp⟩
/-- What is read of the chunk in V, from a database that is T's with its places changed. -/
theorem tail_read (T c V : ByteArray) (a' : Nat) (hT : Fine T) (h : Tail T c V a') (hcol : colAt V a' = 1) (π₁ : Pl → Pl) :
    readF ⟨#[109]⟩ V a' { (rdM T).2 with sts := (rdM T).2.sts.map (mapSt π₁) } =
      (shQ (T.size + 1) a' (rdM (T ++ ⟨#[10]⟩ ++ c)).1, mapDb (fun i => if i < (rdM T).2.sts.length then π₁ else πL (lineAt V a' - (lineAt T T.size + 1))) (rdM (T ++ ⟨#[10]⟩ ++ c)).2) := by
  have sz : (T ++ ⟨#[10]⟩ ++ c).size = T.size + 1 + c.size := by rw [ByteArray.size_append, ByteArray.size_append, lf_size]
  have s := (tail_shf T c V a' h).1
  obtain ⟨-, hp, hl⟩ := hT.left
  have lu := line_U T c
  have rp := (read_pre (pre_of T c) ⟨#[109]⟩ 0 emptyDb (Nat.zero_le _) hT.ok).2
  have rs := read_sh s ⟨#[109]⟩ ⟨#[109]⟩ (fun i => if i < (rdM T).2.sts.length then π₁ else πL (lineAt V a' - (lineAt T T.size + 1))) (rdM T).2.sts.length (fun q hq hq2 i hi => by
    have ls := line_sh s (by rw [hcol, lu.2]) q hq hq2
    simp only [if_neg (show ¬ i < (rdM T).2.sts.length by omega)]
    unfold πL plAt
    rw [if_neg (show ¬ ((⟨#[109]⟩ : ByteArray).toList == []) = true by decide +kernel), ls.1, ls.2, lu.1]) (T.size + 1) (rdM T).2 (Nat.le_refl _) (by omega) (Nat.le_refl _) hl
  rw [show T.size + 1 - (T.size + 1) + a' = a' by omega, map_closed _ _ _ hp] at rs
  rw [rs]
  have e : rdM (T ++ ⟨#[10]⟩ ++ c) = readF ⟨#[109]⟩ (T ++ ⟨#[10]⟩ ++ c) (T.size + 1) (rdM T).2 := rp
  rw [← e]

end Go.Proofs.YtcipkfhpcbddiaaGreat

/- Package record: FindAssertion. -/
namespace Go.Proofs.YtcipkfhpcbddiaaGreat
open Go.RowKit

def namesA (l : List St) (lab : ByteArray) (n : Nat) : Bool := match l[n]? with | some s => (s.label.toList == lab.toList) && isA s.kind | none => false
/-- The assertion that has this label. -/
def findAF (l : List St) (lab : ByteArray) : Option Nat := (List.range l.length).find? (namesA l lab)
theorem namesA_eq (l : List St) (lab : ByteArray) (n : Nat) (h : n < l.length) : namesA l lab n = ((l[n].label.toList == lab.toList) && isA l[n].kind) := by
  unfold namesA; rw [List.getElem?_eq_getElem h]

set_option maxHeartbeats 1600000 in
theorem findAssertion_any (b o : Nat) (lab : ByteArray) (l : List St) (H : Nat → Hd) (w : World) (h : RecAt w b o l H) (hl : l.length ≤ 1073741824) :
    Calls Tryz.prog 55 #[.pointer (some ⟨b, o, none⟩), .string lab] w fun e w' => e = .returned (.int .i64 (optV (findAF l lab))) ∧ Kept [] w w' := by
  have hbw := h.lt
  go_enter Tryz.func55, Tryz.ntmps55
  go_wp2
  go_loopg [5] l.length (fun g i wr => ∃ k : Nat, k ≤ l.length ∧ g = l.length - k ∧ i = .int .i64 k ∧ Hid (∀ i, i < k → namesA l lab i = false) ∧ Kept [] w wr)
  case atStart => exact ⟨0, by omega, by omega, rfl, fun i hi => by omega, Kept.refl _ _⟩
  case round =>
    obtain ⟨k, hk, hg, rfl, hall, hK⟩ := hrel
    have hr := h.still hK
    have c := hr.at
    by_cases hlt : k < l.length
    · obtain ⟨g, e1, e2, e3, c0, c1, c2, c3, c4, c5, c6, c7⟩ := hr.sts.stmt k hlt
      rw [e1] at c
      have HN := (show Hid _ from namesA_eq l lab k hlt)
      have next : Hid (namesA l lab k = false → ∀ i, i < k + 1 → namesA l lab i = false) := by
        intro hf i hi
        by_cases e : i = k
        · subst e; exact hf
        · exact hall.out i (by omega)
      generalize l[k] = s at *
      cases hb : (s.label.toList == lab.toList)
      · have HF : Hid (namesA l lab k = false) := by show _ = _; rw [HN.out, hb]; simp
        clear HN hr
        go_wp2
        go_roundg (l.length - (k + 1))
        case measure => omega
        case rel => exact ⟨k + 1, by omega, rfl, by go_num, next.out HF.out, hK⟩
      · cases ha : isA s.kind
        · have HF : Hid (namesA l lab k = false) := by show _ = _; rw [HN.out, ha]; simp
          clear HN hr
          go_wp2_with (go_at_call 65; refine (isAssertion_any s.kind _ _ _ _ _ _ _ _).mono ?_; rintro e w1 ⟨rfl, hk1⟩; rw [ha])
          go_roundg (l.length - (k + 1))
          case measure => omega
          case rel => exact ⟨k + 1, by omega, rfl, by go_num, next.out HF.out, hK.trans hk1⟩
        · have HF : Hid (findAF l lab = some k) := range_hit hlt (by rw [HN.out, hb, ha]; rfl) hall.out
          clear HN hr
          go_wp2_with (go_at_call 65; refine (isAssertion_any s.kind _ _ _ _ _ _ _ _).mono ?_; rintro e w1 ⟨rfl, hk1⟩; rw [ha])
          go_ret
          exact ⟨ret_int (by rw [HF.out]; rfl), hK.trans hk1⟩
    · have HF : Hid (findAF l lab = none) := range_none (fun i hi => hall.out i (by omega))
      clear hr
      go_wp2
      go_ret
      exact ⟨ret_int (by rw [HF.out]; rfl), hK⟩

end Go.Proofs.YtcipkfhpcbddiaaGreat

/- A name that is in use, behind a closed text; the labels of rows. No walk. -/
namespace Go.Proofs.YtcipkfhpcbddiaaGreat
open Go.RowKit

theorem bytes_eq {a b : ByteArray} (h : (a.toList == b.toList) = true) : a = b := by
  have h' : a.toList = b.toList := by simpa using h
  apply ByteArray.ext
  apply Array.toList_inj.1
  rw [← ByteArray.toList_eq, ← ByteArray.toList_eq]; exact h'
theorem Wd.noDollar {x : ByteArray} (h : Wd x) : dollarF x = false := by
  unfold dollarF
  rw [List.any_eq_false]
  intro i hi
  have := (h.2 i (List.mem_range.1 hi)).2
  simp [this]
theorem Wd.notKey {x : ByteArray} (h : Wd x) (c : UInt8) : (x.toList == [36, c]) = false := by
  cases e : (x.toList == [36, c])
  · rfl
  · obtain ⟨h1, h2, -⟩ := two_bytes x c e
    exact absurd h2 (h.2 0 h.1).2

/-- The word at a place. -/
theorem wordEnd_at (d : ByteArray) (k z : Nat) (hk : k ≤ z) (hz : z ≤ d.size) (hw : ∀ i, k ≤ i → i < z → plainB (byteAt d i) = true) (he : z = d.size ∨ blankB (byteAt d z) = true) : wordEnd d k = z := by
  obtain ⟨n, rfl⟩ : ∃ n, z = k + n := ⟨z - k, by omega⟩
  clear hk
  induction n generalizing k with
  | zero => exact word_off d _ (fun h => by
      rcases he with e | e
      · have := h.1; omega
      · rw [Nat.add_zero] at e; rw [e] at h; simp at h)
  | succ n ih =>
    have hp := hw k (Nat.le_refl _) (by omega)
    have hb : blankB (byteAt d k) = false := by
      unfold plainB at hp
      unfold blankB
      simp only [Bool.and_eq_true, decide_eq_true_eq] at hp
      simp; omega
    rw [word_on d k (by omega) hb hp]
    have := ih (k + 1) (by omega) (fun i h1 h2 => hw i (by omega) (by omega)) (by rw [show k + 1 + n = k + (n + 1) by omega]; exact he)
    rw [this]; omega
theorem next_at (d : ByteArray) (k z : Nat) (hk : k < z) (hz : z ≤ d.size) (hw : ∀ i, k ≤ i → i < z → plainB (byteAt d i) = true) (he : z = d.size ∨ blankB (byteAt d z) = true) (hc : ((d.extract k z).toList == [36, 40]) = false) :
    nextF d k = (⟨d.extract k z, 0, false, k⟩, z) := by
  have hp := hw k (Nat.le_refl _) hk
  have hb : blankB (byteAt d k) = false := by
    unfold plainB at hp
    unfold blankB
    simp only [Bool.and_eq_true, decide_eq_true_eq] at hp
    simp; omega
  have hs : skip d k = k := skip_off d k (fun h => by rw [hb] at h; simp at h)
  have hwe := wordEnd_at d k z (by omega) hz hw he
  have hr : runF d k = (⟨d.extract k z, 0, false, k⟩, z) := runF_word d k k z hs.symm (by rw [hwe]; exact word_off d z (fun h => by
      rcases he with e | e
      · have := h.1; omega
      · rw [e] at h; simp at h)) (fun h => by
      rcases he with e | e
      · have := h.1; omega
      · rw [e] at h; simp at h) hk
  rw [next_plain d k (Or.inr (by rw [hr]; exact hc)), hr]
theorem next_skip (d : ByteArray) (k : Nat) (hk : k < d.size) (hb : blankB (byteAt d k) = true) : nextF d k = nextF d (k + 1) := by
  refine next_congr d k (k + 1) (by omega) (by omega) ?_
  unfold runF
  rw [skip_on d k hk hb]

theorem isWord_mk (t : ByteArray) (p : Nat) : isWordF ⟨t, 0, false, p⟩ = true := by simp [isWordF]
/-- The text behind T, byte by byte. -/
theorem read_U1 (T c : ByteArray) (hT : Fine T) : rdM (T ++ ⟨#[10]⟩ ++ c) = readF ⟨#[109]⟩ (T ++ ⟨#[10]⟩ ++ c) (T.size + 1) (rdM T).2 ∧ openF (rdM T).2 = false := by
  have h := read_pre (pre_of T c) ⟨#[109]⟩ 0 emptyDb (Nat.zero_le _) hT.ok
  exact ⟨h.2, h.1⟩
theorem extract_is (U x : ByteArray) (p : Nat) (hs : p + x.size ≤ U.size) (hb : ∀ i, i < x.size → byteAt U (p + i) = byteAt x i) : U.extract p (p + x.size) = x := by
  apply ByteArray.ext_getElem
  · simp only [ByteArray.size_extract]; omega
  · intro i h1 h2
    rw [ByteArray.getElem_extract]
    have hbi := hb i h2
    rw [byteAt_of _ _ (by omega), byteAt_of _ _ h2] at hbi
    exact UInt8.toNat_inj.1 (by omega)
def endB : ByteArray := ⟨#[32, 36, 46]⟩
theorem endB_size : endB.size = 3 := rfl
theorem open_zero {d : Db} (h : openF d = false) : d.kind = 0 ∧ d.blocks = [] := by
  simp only [openF, Bool.or_eq_false_iff, bne_eq_false_iff_eq, decide_eq_false_iff_not] at h
  exact ⟨h.1, List.eq_nil_of_length_eq_zero (by omega)⟩

/-- A label that is in use. -/
theorem taken_label (T x : ByteArray) (hT : Fine T) (hx : Wd x) (hl : isLabelF x = true) (ht : isTakenF (rdM T).2 x = true) : (rdM (T ++ ⟨#[10]⟩ ++ (x ++ endB))).1 = (13, T.size + 1) := by
  obtain ⟨e, ho⟩ := read_U1 T (x ++ endB) hT
  have hk := (open_zero ho).1
  have hcs : (x ++ endB).size = x.size + 3 := by rw [ByteArray.size_append, endB_size]
  have hus : (T ++ ⟨#[10]⟩ ++ (x ++ endB)).size = T.size + 1 + (x.size + 3) := by rw [ByteArray.size_append, ByteArray.size_append, lf_size, hcs]
  have hb : ∀ i, i < x.size → byteAt (T ++ ⟨#[10]⟩ ++ (x ++ endB)) (T.size + 1 + i) = byteAt x i := fun i hi => by
    rw [pre_right T _ i (by omega), byteAt_append_left _ _ i hi]
  have he : byteAt (T ++ ⟨#[10]⟩ ++ (x ++ endB)) (T.size + 1 + x.size) = 32 := by
    rw [pre_right T _ x.size (by omega)]
    have := byteAt_append_right x endB 0 (by rw [endB_size]; omega)
    rw [Nat.add_zero] at this
    rw [this]; decide +kernel
  have hex := extract_is _ x (T.size + 1) (by omega) hb
  have hn := next_at (T ++ ⟨#[10]⟩ ++ (x ++ endB)) (T.size + 1) (T.size + 1 + x.size) (by have := hx.1; omega) (by omega)
    (fun i h1 h2 => by rw [show i = T.size + 1 + (i - (T.size + 1)) by omega, hb _ (by omega)]; exact (hx.2 _ (by omega)).1) (Or.inr (by rw [he]; rfl)) (by rw [hex]; exact hx.notKey 40)
  rw [hex] at hn
  have htk : ∀ p, takeF (rdM T).2 x p = (13, (rdM T).2) := by
    intro p
    unfold takeF
    rw [if_pos (by rw [hk]; rfl)]
    unfold takeFirstF
    simp only [hx.notKey, Bool.false_eq_true, if_false, or_self]
    unfold takeLabelF
    simp [hx.noDollar, hl, ht]
  rw [e, read_rule _ _ _ _ (by rw [hn]; exact isWord_mk _ _) (by rw [hn]; simp only [htk]; rfl), hn]
  simp only [htk]
/-- A name that is in use, in $c or $v. -/
theorem taken_sym (T x : ByteArray) (b : UInt8) (hbb : b = 99 ∨ b = 118) (hT : Fine T) (hx : Wd x) (ht : hasF (rdM T).2.labels x = true ∨ hasF (rdM T).2.constants x = true) : (rdM (T ++ ⟨#[10]⟩ ++ (⟨#[36, b, 32]⟩ ++ x ++ endB))).1 = (13, T.size + 4) := by
  obtain ⟨e, ho⟩ := read_U1 T (⟨#[36, b, 32]⟩ ++ x ++ endB) hT
  obtain ⟨hk, hbl⟩ := open_zero ho
  have hnm := rdM_nm T
  have hip : (rdM T).2.inProof = false := hnm.prf (by omega)
  have hs3 : (⟨#[36, b, 32]⟩ : ByteArray).size = 3 := rfl
  have hcs : (⟨#[36, b, 32]⟩ ++ x ++ endB).size = 3 + x.size + 3 := by rw [ByteArray.size_append, ByteArray.size_append, endB_size, hs3]
  generalize hU : T ++ ⟨#[10]⟩ ++ (⟨#[36, b, 32]⟩ ++ x ++ endB) = U at e ⊢
  have hus : U.size = T.size + 1 + (3 + x.size + 3) := by rw [← hU, ByteArray.size_append, ByteArray.size_append, lf_size, hcs]
  have hb0 : ∀ i, i < 3 → byteAt U (T.size + 1 + i) = byteAt ⟨#[36, b, 32]⟩ i := fun i hi => by
    rw [← hU, pre_right T _ i (by omega), byteAt_append_left _ _ i (by rw [ByteArray.size_append, hs3]; omega), byteAt_append_left _ _ i (by rw [hs3]; omega)]
  have hb : ∀ i, i < x.size → byteAt U (T.size + 4 + i) = byteAt x i := fun i hi => by
    rw [← hU, show T.size + 4 + i = T.size + 1 + (3 + i) by omega, pre_right T _ (3 + i) (by omega), byteAt_append_left _ _ (3 + i) (by rw [ByteArray.size_append, hs3]; omega)]
    have := byteAt_append_right ⟨#[36, b, 32]⟩ x i hi
    rw [hs3] at this; exact this
  have he : byteAt U (T.size + 4 + x.size) = 32 := by
    rw [← hU, show T.size + 4 + x.size = T.size + 1 + (3 + x.size) by omega, pre_right T _ (3 + x.size) (by omega)]
    have := byteAt_append_right (⟨#[36, b, 32]⟩ ++ x) endB 0 (by rw [endB_size]; omega)
    rw [Nat.add_zero, ByteArray.size_append, hs3] at this
    rw [this]; decide +kernel
  clear hU
  have q0 : byteAt (⟨#[36, b, 32]⟩ : ByteArray) 0 = 36 := rfl
  have q1 : byteAt (⟨#[36, b, 32]⟩ : ByteArray) 1 = (b.toNat : Int) := rfl
  have q2 : byteAt (⟨#[36, b, 32]⟩ : ByteArray) 2 = 32 := rfl
  have p0 := hb0 0 (by omega)
  have p1 := hb0 1 (by omega)
  have p2 := hb0 2 (by omega)
  rw [q0, Nat.add_zero] at p0
  rw [q1] at p1
  rw [q2] at p2
  have hex1 := extract_is U ⟨#[36, b]⟩ (T.size + 1) (by have : (⟨#[36, b]⟩ : ByteArray).size = 2 := rfl; omega) (fun i hi => by
    have : i < 2 := hi
    match i, this with
    | 0, _ => rw [Nat.add_zero, p0]; rfl
    | 1, _ => rw [p1]; rfl)
  have hl1 : (⟨#[36, b]⟩ : ByteArray).toList = [36, b] := by rw [ByteArray.toList_eq]
  have hn1 := next_at U (T.size + 1) (T.size + 1 + 2) (by omega) (by omega)
    (fun i h1 h2 => by
      by_cases e0 : i = T.size + 1
      · rw [e0, p0]; rfl
      · rw [show i = T.size + 1 + 1 by omega, p1]; rcases hbb with rfl | rfl <;> decide) (Or.inr (by rw [p2]; rfl))
    (by rw [show T.size + 1 + 2 = T.size + 1 + (⟨#[36, b]⟩ : ByteArray).size from rfl, hex1, hl1]; rcases hbb with rfl | rfl <;> decide)
  rw [show T.size + 1 + 2 = T.size + 1 + (⟨#[36, b]⟩ : ByteArray).size from rfl, hex1] at hn1
  have hex2 := extract_is U x (T.size + 4) (by omega) hb
  have hn2 := next_at U (T.size + 4) (T.size + 4 + x.size) (by have := hx.1; omega) (by omega)
    (fun i h1 h2 => by rw [show i = T.size + 4 + (i - (T.size + 4)) by omega, hb _ (by omega)]; exact (hx.2 _ (by omega)).1) (Or.inr (by rw [he]; rfl)) (by rw [hex2]; exact hx.notKey 40)
  rw [hex2] at hn2
  have hsk := next_skip U (T.size + 1 + (⟨#[36, b]⟩ : ByteArray).size) (by have : (⟨#[36, b]⟩ : ByteArray).size = 2 := rfl; omega) (by rw [show T.size + 1 + (⟨#[36, b]⟩ : ByteArray).size = T.size + 1 + 2 from rfl, p2]; rfl)
  rw [show T.size + 1 + (⟨#[36, b]⟩ : ByteArray).size + 1 = T.size + 4 from rfl, hn2] at hsk
  have htk1 : ∃ k : Int, (k = 7 ∨ k = 8) ∧ ∀ p, takeF (rdM T).2 ⟨#[36, b]⟩ p = (0, { (rdM T).2 with kind := k }) := by
    rcases hbb with rfl | rfl
    · refine ⟨7, Or.inl rfl, fun p => ?_⟩
      unfold takeF
      rw [if_pos (by rw [hk]; rfl)]
      unfold takeFirstF
      rw [hl1]
      simp [hbl]
    · refine ⟨8, Or.inr rfl, fun p => ?_⟩
      unfold takeF
      rw [if_pos (by rw [hk]; rfl)]
      unfold takeFirstF
      rw [hl1]
      simp
  obtain ⟨k, hk7, htk1⟩ := htk1
  have htk2 : ∀ p, takeF { (rdM T).2 with kind := k } x p = (13, { (rdM T).2 with kind := k }) := by
    intro p
    have hcs : checkSymbolF { (rdM T).2 with kind := k } x = 13 := by
      unfold checkSymbolF isTakenF isTakenVF
      rcases hk7 with rfl | rfl
      · simp only [BEq.rfl, if_true]
        rw [if_pos]
        right
        rcases ht with ht | ht <;> simp [ht]
      · simp only [show ((8 : Int) == 7) = false from rfl, BEq.rfl, if_true, Bool.false_eq_true, if_false]
        rw [if_pos]
        right
        rcases ht with ht | ht <;> simp [ht]
    unfold takeF
    have k0 : (k == 0) = false := by rcases hk7 with rfl | rfl <;> rfl
    have k6 : (k == 6) = false := by rcases hk7 with rfl | rfl <;> rfl
    rw [if_neg (by show ¬ (k == 0) = true; rw [k0]; simp), if_neg (by show ¬ (k == 6) = true; rw [k6]; simp), if_neg (by rw [hx.notKey]; simp), if_neg (by rintro ⟨h, -⟩; rw [hx.notKey] at h; cases h), if_neg (by rw [hx.noDollar]; simp), if_neg (by show ¬ (rdM T).2.inProof = true; rw [hip]; simp), hcs]
    rfl
  have hw1 : isWordF (nextF U (T.size + 1)).1 = true := by rw [hn1]; exact isWord_mk _ _
  rw [e, read_on _ _ _ _ (by omega) hw1 (by rw [hn1]; simp only [htk1]; rfl), hn1]
  simp only [htk1]
  rw [read_rule _ _ _ _ (by rw [hsk]; exact isWord_mk _ _) (by rw [hsk]; simp only [htk2]; rfl), hsk]
  simp only [htk2]

theorem row_has (l : List St) (k : Nat) (r : Rw) (h : r ∈ rowsUp l k) (hv : r.verdict ≠ 0) : ∃ n s, n < k ∧ l[n]? = some s ∧ isA s.kind = true ∧ r.label = s.label := by
  induction k with
  | zero => simp [rowsUp] at h
  | succ k ih =>
    rw [rowsUp] at h
    rcases List.mem_append.1 h with h | h
    · obtain ⟨n, s, h1, h2⟩ := ih h
      exact ⟨n, s, by omega, h2⟩
    · rw [List.mem_singleton.1 h] at hv ⊢
      unfold oneRow at hv ⊢
      cases hs : l[k]? with
      | none => rw [hs] at hv; exact absurd rfl hv
      | some s =>
        rw [hs] at hv
        simp only at hv ⊢
        cases h4 : (s.kind == 4)
        · cases h5 : (s.kind == 5)
          · rw [h4, h5] at hv; exact absurd rfl hv
          · refine ⟨k, s, by omega, hs, by unfold isA; rw [h5]; simp, ?_⟩
            simp only [Bool.false_eq_true, if_false, if_true]
            unfold judgeF judgeR
            repeat' split
            all_goals rfl
        · exact ⟨k, s, by omega, hs, by unfold isA; rw [h4]; rfl, by simp⟩
theorem row_asserts (l : List St) (r : Rw) (h : r ∈ rowsF l) : ∃ n s, findAF l r.label = some n ∧ l[n]? = some s ∧ isA s.kind = true ∧ s.label = r.label := by
  unfold rowsF at h
  obtain ⟨h1, h2⟩ := List.mem_filter.1 h
  obtain ⟨n, s, hn, hs, ha, hl⟩ := row_has l _ r h1 (by simpa using h2)
  have hA : namesA l r.label n = true := by unfold namesA; rw [hs]; simp [hl, ha]
  cases hf : findAF l r.label with
  | none =>
    unfold findAF at hf
    have := List.find?_eq_none.1 hf n (List.mem_range.2 hn)
    exact absurd hA this
  | some m =>
    unfold findAF at hf
    have hm := List.find?_some hf
    unfold namesA at hm
    cases hms : l[m]? with
    | none => rw [hms] at hm; cases hm
    | some t =>
      rw [hms] at hm
      simp only [Bool.and_eq_true] at hm
      exact ⟨m, t, rfl, hms, hm.2, bytes_eq hm.1⟩
/-- The label of a hypothesis is no assertion's. -/
theorem find_none {l : List St} (hd : Dif l) (n : Nat) (s : St) (hs : l[n]? = some s) (hk : s.kind = 2 ∨ s.kind = 3) : findAF l s.label = none := by
  unfold findAF
  rw [List.find?_eq_none]
  intro m hm hA
  unfold namesA at hA
  cases ht : l[m]? with
  | none => rw [ht] at hA; cases hA
  | some t =>
    rw [ht] at hA
    simp only [Bool.and_eq_true] at hA
    have hkt : t.kind = 4 ∨ t.kind = 5 := by have := hA.2; unfold isA at this; simpa using this
    rcases Nat.lt_trichotomy m n with h | h | h
    · have := hd m n t s h ht hs (by omega) (by omega)
      rw [hA.1] at this; cases this
    · subst h; rw [hs] at ht; cases ht; omega
    · have := hd n m s t h hs ht (by omega) (by omega)
      have e : s.label = t.label := (bytes_eq hA.1).symm
      rw [e] at this; simp at this
theorem hyps_kind (l : List St) (a n : Nat) (h : n ∈ hypsF l a) : ∃ s, l[n]? = some s ∧ (s.kind = 2 ∨ s.kind = 3) := by
  unfold hypsF hypsTo at h
  obtain ⟨-, h2⟩ := List.mem_filter.1 h
  unfold mandAt at h2
  cases hs : l[n]? with
  | none => rw [hs] at h2; cases h2
  | some s =>
    rw [hs] at h2
    simp only [Bool.and_eq_true] at h2
    refine ⟨s, rfl, ?_⟩
    have := h2.2
    unfold mandF at this
    cases e2 : (s.kind == 2)
    · rw [e2] at this
      right; simpa using this
    · left; simpa using e2

end Go.Proofs.YtcipkfhpcbddiaaGreat

/- Package frames: keyword, line, variablesOf. -/
namespace Go.Proofs.YtcipkfhpcbddiaaGreat
open Go.RowKit

def keyF (k : Int) : ByteArray := if (k == 2) = true then ⟨#[36, 102]⟩ else if (k == 3) = true then ⟨#[36, 101]⟩ else if (k == 4) = true then ⟨#[36, 97]⟩ else ⟨#[36, 112]⟩
set_option maxHeartbeats 400000 in
theorem keyword_any (k : Int) (w : World) : Calls Tryz.prog 73 #[.int .i64 k] w fun e w' => e = .returned (.string (keyF k)) ∧ w' = w := by
  cases h2 : (k == 2)
  · cases h3 : (k == 3)
    · cases h4 : (k == 4)
      · have HK : Hid (keyF k = ⟨#[36, 112]⟩) := by show _ = _; simp only [keyF, h2, h3, h4]; rfl
        go_enter Tryz.func73, Tryz.ntmps73
        go_wp2
        go_ret
        exact ⟨by rw [HK.out]; rfl, rfl⟩
      · have HK : Hid (keyF k = ⟨#[36, 97]⟩) := by show _ = _; simp only [keyF, h2, h3, h4]; rfl
        go_enter Tryz.func73, Tryz.ntmps73
        go_wp2
        go_ret
        exact ⟨by rw [HK.out]; rfl, rfl⟩
    · have HK : Hid (keyF k = ⟨#[36, 101]⟩) := by show _ = _; simp only [keyF, h2, h3]; rfl
      go_enter Tryz.func73, Tryz.ntmps73
      go_wp2
      go_ret
      exact ⟨by rw [HK.out]; rfl, rfl⟩
  · have HK : Hid (keyF k = ⟨#[36, 102]⟩) := by show _ = _; simp only [keyF, h2]; rfl
    go_enter Tryz.func73, Tryz.ntmps73
    go_wp2
    go_ret
    exact ⟨by rw [HK.out]; rfl, rfl⟩

/-- A statement as a line. -/
def lineTo (s : St) (k : Nat) : ByteArray := (s.symbols.take k).foldl (fun t x => t ++ (⟨#[32]⟩ ++ x)) (s.label ++ ⟨#[32]⟩ ++ keyF s.kind)
def lineF (s : St) : ByteArray := lineTo s s.symbols.length

theorem lineTo_next (s : St) (k : Nat) (h : k < s.symbols.length) : lineTo s (k + 1) = lineTo s k ++ (⟨#[32]⟩ ++ s.symbols[k]) := by
  unfold lineTo; rw [take_snoc s.symbols k h, List.foldl_append]; rfl
/-- What a line is made of is not long. -/
structure SzOk (s : St) : Prop where
  label : s.label.size ≤ 100000
  syms : ∀ x ∈ s.symbols, x.size ≤ 100000
theorem keyF_size (k : Int) : (keyF k).size = 2 := by
  unfold keyF
  repeat' split
  all_goals rfl
theorem one_size : (⟨#[32]⟩ : ByteArray).size = 1 := rfl
theorem lineTo_size (s : St) (h : SzOk s) (k : Nat) (hk : k ≤ s.symbols.length) : (lineTo s k).size ≤ 100003 + k * 100001 := by
  induction k with
  | zero =>
    unfold lineTo
    have := h.label
    simp only [List.take_zero, List.foldl_nil, ByteArray.size_append, one_size, keyF_size]
    omega
  | succ k ih =>
    have hx := h.syms _ (List.getElem_mem (show k < s.symbols.length by omega))
    rw [lineTo_next s k (by omega)]
    simp only [ByteArray.size_append, one_size]
    have := ih (by omega)
    omega

def varOne (l : List St) (n : Nat) : Option ByteArray := match l[n]? with
  | some s => if (s.kind == 2) = true then some (variableF s) else none
  | none => none
/-- The variables of hypotheses. -/
def varsTo (l : List St) (hs : List Nat) (k : Nat) : List ByteArray := (hs.take k).filterMap (varOne l)
def varsOfF (l : List St) (hs : List Nat) : List ByteArray := hs.filterMap (varOne l)
theorem varsTo_yes (l : List St) (hs : List Nat) (k : Nat) (h : k < hs.length) (hn : hs[k] < l.length) (hk : (l[hs[k]].kind == 2) = true) : varsTo l hs (k + 1) = varsTo l hs k ++ [variableF l[hs[k]]] := by
  unfold varsTo; rw [take_snoc hs k h, List.filterMap_append]
  have : varOne l hs[k] = some (variableF l[hs[k]]) := by unfold varOne; rw [List.getElem?_eq_getElem hn]; simp [hk]
  simp [this]
theorem varsTo_no (l : List St) (hs : List Nat) (k : Nat) (h : k < hs.length) (hn : hs[k] < l.length) (hk : (l[hs[k]].kind == 2) = false) : varsTo l hs (k + 1) = varsTo l hs k := by
  unfold varsTo; rw [take_snoc hs k h, List.filterMap_append]
  have : varOne l hs[k] = none := by unfold varOne; rw [List.getElem?_eq_getElem hn]; simp [hk]
  simp [this]
theorem varsTo_len (l : List St) (hs : List Nat) (k : Nat) : (varsTo l hs k).length ≤ hs.length := by
  unfold varsTo
  have h1 := List.length_filterMap_le (varOne l) (hs.take k)
  have h2 : (hs.take k).length ≤ hs.length := by simp; omega
  omega

end Go.Proofs.YtcipkfhpcbddiaaGreat

/- Package metaproofkeep: split: the words of a line. -/
namespace Go.Proofs.YtcipkfhpcbddiaaGreat
open Go.RowKit

/-- Behind i bytes: the words so far, and where the next begins. -/
def spAt (s : ByteArray) : Nat → List ByteArray × Nat
  | 0 => ([], 0)
  | i + 1 => if (byteAt s i == 32) = true then ((spAt s i).1 ++ [s.extract (spAt s i).2 i], i + 1) else spAt s i
def splitF (s : ByteArray) : List ByteArray := (spAt s s.size).1 ++ [s.extract (spAt s s.size).2 s.size]
theorem spAt_yes (s : ByteArray) (i : Nat) (h : (byteAt s i == 32) = true) : spAt s (i + 1) = ((spAt s i).1 ++ [s.extract (spAt s i).2 i], i + 1) := by rw [spAt, if_pos h]
theorem spAt_no (s : ByteArray) (i : Nat) (h : (byteAt s i == 32) = false) : spAt s (i + 1) = spAt s i := by rw [spAt, if_neg (by rw [h]; simp)]
theorem spAt_le (s : ByteArray) (i : Nat) : (spAt s i).2 ≤ i ∧ (spAt s i).1.length ≤ i := by
  induction i with
  | zero => simp [spAt]
  | succ i ih =>
    cases h : (byteAt s i == 32)
    · rw [spAt_no s i h]; omega
    · rw [spAt_yes s i h]; simp; omega

/-- No blank in it. -/
def NoBl (x : ByteArray) : Prop := ∀ i, i < x.size → (byteAt x i == 32) = false
theorem Wd.noBl {x : ByteArray} (h : Wd x) : NoBl x := by
  intro i hi
  have := (h.2 i hi).1
  cases e : (byteAt x i == 32)
  · rfl
  · have e' : byteAt x i = 32 := by simpa using e
    rw [e'] at this
    revert this; decide
theorem extract_all (x : ByteArray) : x.extract 0 x.size = x := by simp
theorem split_one (x : ByteArray) (h : NoBl x) : splitF x = [x] := by
  have : ∀ i, i ≤ x.size → spAt x i = ([], 0) := by
    intro i
    induction i with
    | zero => intro _; rfl
    | succ i ih => intro hi; rw [spAt_no x i (h i (by omega))]; exact ih (by omega)
  unfold splitF
  rw [this x.size (Nat.le_refl _)]
  simp
theorem extract_left (t u : ByteArray) (a z : Nat) (hz : z ≤ t.size) : (t ++ u).extract a z = t.extract a z := by
  apply ByteArray.ext_getElem
  · simp only [ByteArray.size_extract, ByteArray.size_append]; omega
  · intro i h1 h2
    rw [ByteArray.getElem_extract, ByteArray.getElem_extract, ByteArray.getElem_append_left]
theorem bl_size : (⟨#[32]⟩ : ByteArray).size = 1 := rfl
theorem split_more (t x : ByteArray) (h : NoBl x) : splitF (t ++ (⟨#[32]⟩ ++ x)) = splitF t ++ [x] := by
  have e1 : ∀ i, i ≤ t.size → spAt (t ++ (⟨#[32]⟩ ++ x)) i = spAt t i := by
    intro i
    induction i with
    | zero => intro _; rfl
    | succ i ih =>
      intro hi
      have ih := ih (by omega)
      have hb := byteAt_append_left t (⟨#[32]⟩ ++ x) i (by omega)
      cases hc : (byteAt t i == 32)
      · rw [spAt_no _ i (by rw [hb]; exact hc), spAt_no t i hc, ih]
      · rw [spAt_yes _ i (by rw [hb]; exact hc), spAt_yes t i hc, ih, extract_left _ _ _ _ (by omega)]
  have hs : (t ++ (⟨#[32]⟩ ++ x)).size = t.size + 1 + x.size := by simp only [ByteArray.size_append, bl_size]; omega
  have hb0 : byteAt (t ++ (⟨#[32]⟩ ++ x)) t.size = 32 := by
    have := byteAt_append_right t (⟨#[32]⟩ ++ x) 0 (by simp only [ByteArray.size_append, bl_size]; omega)
    rw [Nat.add_zero] at this
    rw [this, byteAt_append_left _ _ 0 (by rw [bl_size]; omega)]
    decide +kernel
  have hbr : ∀ i, i < x.size → byteAt (t ++ (⟨#[32]⟩ ++ x)) (t.size + 1 + i) = byteAt x i := by
    intro i hi
    have := byteAt_append_right t (⟨#[32]⟩ ++ x) (1 + i) (by simp only [ByteArray.size_append, bl_size]; omega)
    rw [show t.size + 1 + i = t.size + (1 + i) by omega, this]
    have h2 := byteAt_append_right (⟨#[32]⟩ : ByteArray) x i hi
    rw [bl_size] at h2
    exact h2
  have e2 : ∀ i, i ≤ x.size → spAt (t ++ (⟨#[32]⟩ ++ x)) (t.size + 1 + i) = (splitF t, t.size + 1) := by
    intro i
    induction i with
    | zero =>
      intro _
      rw [Nat.add_zero, spAt_yes _ t.size (by rw [hb0]; rfl), e1 _ (Nat.le_refl _), extract_left _ _ _ _ (Nat.le_refl _)]
      rfl
    | succ i ih =>
      intro hi
      rw [show t.size + 1 + (i + 1) = (t.size + 1 + i) + 1 by omega, spAt_no _ _ (by rw [hbr i (by omega)]; exact h i (by omega))]
      exact ih (by omega)
  conv => lhs; unfold splitF
  rw [hs, e2 x.size (Nat.le_refl _)]
  simp only
  congr 2
  apply ByteArray.ext_getElem
  · simp only [ByteArray.size_extract, hs]; omega
  · intro i h1 h2
    rw [ByteArray.getElem_extract]
    have hbi := hbr i h2
    rw [byteAt_of _ _ (by rw [hs]; omega), byteAt_of _ _ h2] at hbi
    exact UInt8.toNat_inj.1 (by omega)

theorem split_line_to (s : St) (hl : NoBl s.label) (hx : ∀ x ∈ s.symbols, NoBl x) (k : Nat) (hk : k ≤ s.symbols.length) : splitF (lineTo s k) = s.label :: keyF s.kind :: s.symbols.take k := by
  induction k with
  | zero =>
    unfold lineTo
    simp only [List.take_zero, List.foldl_nil]
    rw [ByteArray.append_assoc, split_more _ _ ?_, split_one _ hl]
    · rfl
    · unfold keyF
      repeat' split
      all_goals (intro i hi; have h2 : i < 2 := hi; match i, h2 with | 0, _ => decide +kernel | 1, _ => decide +kernel)
  | succ k ih =>
    rw [lineTo_next s k (by omega), split_more _ _ (hx _ (List.getElem_mem _)), ih (by omega), take_snoc s.symbols k (by omega)]
    simp
theorem split_line (s : St) (hl : NoBl s.label) (hx : ∀ x ∈ s.symbols, NoBl x) : splitF (lineF s) = s.label :: keyF s.kind :: s.symbols := by
  unfold lineF
  rw [split_line_to s hl hx _ (Nat.le_refl _), List.take_length]

set_option maxHeartbeats 1000000 in
set_option maxRecDepth 100000 in
theorem split_any (s : ByteArray) (w : World) (hs : s.size ≤ 1073741824) :
    Calls Tryz.prog 41 #[.string s] w fun e w' => ∃ hd : Hd, e = .returned (.slice hd.ao (splitF s).length hd.cap) ∧ Owns w' hd (rowS (splitF s)) ∧ (∀ x, hd.blk = some x → w.heap.size ≤ x) ∧ Kept [] w w' := by
  obtain ⟨i0, hi, hz0, hz1, hz2⟩ := info_parts infoS
  go_enter Tryz.func41, Tryz.ntmps41
  go_wp2
  go_loopg [3, 4, 5] s.size (fun gk sv fv i wr => ∃ (k : Nat) (hd : Hd), k ≤ s.size ∧ gk = s.size - k ∧ i = .int .i64 k ∧ fv = .int .i64 (spAt s k).2 ∧ sv = .slice hd.ao (spAt s k).1.length hd.cap ∧ Owns wr hd (rowS (spAt s k).1) ∧ (∀ x, hd.blk = some x → w.heap.size ≤ x) ∧ Kept [] w wr)
  case atStart => exact ⟨0, ⟨none, 0⟩, by omega, by omega, rfl, rfl, rfl, World.ownsRow_nil _ _ _ _, by intro x hx; simp [Hd.blk] at hx, Kept.refl _ _⟩
  case round =>
    obtain ⟨k, hd, hk, hg, rfl, rfl, rfl, hO, hN, hK⟩ := hrel
    have hle := spAt_le s k
    by_cases hlt : k < s.size
    · have HY := (show Hid _ from spAt_yes s k)
      have HN0 := (show Hid _ from spAt_no s k)
      rw [byteAt_of s k hlt] at HY HN0
      generalize hsp : spAt s k = sp at *
      obtain ⟨out, from_⟩ := sp
      simp only at hle hO HY HN0 ⊢
      have hfk : (from_ : Int) ≤ k := by omega
      cases hb : (((s[k]'hlt).toNat : Int) == 32)
      · have HT := (show Hid _ from HN0.out hb)
        clear HY HN0
        have hb' : (s[k]'hlt == 32) = false := by
          cases e : (s[k]'hlt == 32)
          · rfl
          · have e2 : s[k]'hlt = 32 := by simpa using e
            rw [e2] at hb; revert hb; decide
        go_wp2
        go_roundg (s.size - (k + 1))
        case measure => omega
        case rel => exact ⟨k + 1, hd, by omega, rfl, by go_num, by rw [HT.out], by rw [HT.out], by rw [HT.out]; exact hO, hN, hK⟩
      · have HT := (show Hid _ from HY.out hb)
        clear HY HN0
        have hb' : (s[k]'hlt == 32) = true := by
          have e2 : ((s[k]'hlt).toNat : Int) = 32 := by simpa using hb
          have : s[k]'hlt = 32 := UInt8.toNat_inj.1 (by simp; omega)
          rw [this]; rfl
        have hO4 : Owns (wr.alloc (.cells #[.string (s.extract from_ k)] 9)) hd (rowS out) := hO.moved (fun x hx => ((Kept.refl [] wr).alloc _).block x (hO.lt hx) (by simp))
        go_wp2_with (at_builtin; refine wpList_append_row _ rfl (.tmp 16) (.tmp 21) 22 rfl i0 (.string ⟨#[]⟩) 16 hd (rowS out) Tryz.underlying22 hi hz0 hz1 hz2 rfl Nat.one_pos rfl (by exact hO4) ⟨_, 0, none⟩ 1 1 [.string (s.extract from_ k)] rfl rfl ?d1 ?d2 Nat.one_pos ?d3 ?d4 ?_)
        case d1 => intro j u hj; match j, hj with | 0, hj => simp at hj; subst hj; simp [Addr.add]
        case d2 => intro u hu; simp at hu; subst hu; rfl
        case d3 => simp only [rowS]; unfold maxLen; omega
        case d4 => simp only [rowS]; omega
        intro g5 cap5 w5 hw5 hgr5 hfresh5
        rw [rowS_snoc out (s.extract from_ k)] at hw5
        have hK4 := hK.alloc (.cells #[.string (s.extract from_ k)] 9)
        have hK5 := hK4.grown hgr5 hN
        have hg5 : w.heap.size ≤ g5 := by
          rcases hfresh5 with e | e
          · exact hN g5 e
          · have := hK4.size; simp at e this; omega
        have hEl : Hid ((rowS out).n + 1 = (out ++ [s.extract from_ k]).length) := by show _ = _; simp [rowS]
        rw [hEl.out]
        clear hgr5 hfresh5 hO4
        go_wp2
        go_roundg (s.size - (k + 1))
        case measure => omega
        case rel => exact ⟨k + 1, ⟨some ⟨g5, 0, none⟩, cap5⟩, by omega, rfl, by go_num, by rw [HT.out]; go_num, by rw [HT.out], by rw [HT.out]; exact hw5, by intro x hx; simp [Hd.blk] at hx; omega, hK5⟩
    · have e : k = s.size := by omega
      subst e
      have HE : Hid (splitF s = (spAt s s.size).1 ++ [s.extract (spAt s s.size).2 s.size]) := rfl
      generalize spAt s s.size = sp at *
      obtain ⟨out, from_⟩ := sp
      simp only at hle hO HE ⊢
      have hfk : (from_ : Int) ≤ s.size := by omega
      have hO4 : Owns (wr.alloc (.cells #[.string (s.extract from_ s.size)] 9)) hd (rowS out) := hO.moved (fun x hx => ((Kept.refl [] wr).alloc _).block x (hO.lt hx) (by simp))
      go_wp2_with (at_builtin; refine wpList_append_row _ rfl (.tmp 25) (.tmp 29) 22 rfl i0 (.string ⟨#[]⟩) 16 hd (rowS out) Tryz.underlying22 hi hz0 hz1 hz2 rfl Nat.one_pos rfl (by exact hO4) ⟨_, 0, none⟩ 1 1 [.string (s.extract from_ s.size)] rfl rfl ?d1 ?d2 Nat.one_pos ?d3 ?d4 ?_)
      case d1 => intro j u hj; match j, hj with | 0, hj => simp at hj; subst hj; simp [Addr.add]
      case d2 => intro u hu; simp at hu; subst hu; rfl
      case d3 => simp only [rowS]; unfold maxLen; omega
      case d4 => simp only [rowS]; omega
      intro g5 cap5 w5 hw5 hgr5 hfresh5
      rw [rowS_snoc out (s.extract from_ s.size)] at hw5
      have hK4 := hK.alloc (.cells #[.string (s.extract from_ s.size)] 9)
      have hK5 := hK4.grown hgr5 hN
      have hg5 : w.heap.size ≤ g5 := by
        rcases hfresh5 with e | e
        · exact hN g5 e
        · have := hK4.size; simp at e this; omega
      have hEl : Hid ((rowS out).n + 1 = (out ++ [s.extract from_ s.size]).length) := by show _ = _; simp [rowS]
      rw [hEl.out]
      clear hgr5 hfresh5 hO4
      go_wp2
      go_ret
      rw [HE.out]
      exact ⟨⟨some ⟨g5, 0, none⟩, cap5⟩, rfl, hw5, by intro x hx; simp [Hd.blk] at hx; omega, hK5⟩

end Go.Proofs.YtcipkfhpcbddiaaGreat

/- Package frames: line, variablesOf: the walks. -/
namespace Go.Proofs.YtcipkfhpcbddiaaGreat
open Go.RowKit

set_option maxHeartbeats 2000000 in
set_option maxRecDepth 100000 in
theorem variablesOf_any (b o : Nat) (l : List St) (H : Nat → Hd) (hs : List Nat) (hh : Hd) (w : World) (h : RecAt w b o l H) (ok : RecOk l) (hOH : Owns w hh (rowN hs)) (hlen : hs.length ≤ 10000) (hlt0 : ∀ x ∈ hs, x < l.length) :
    Calls Tryz.prog 71 #[.pointer (some ⟨b, o, none⟩), .slice hh.ao hs.length hh.cap] w fun e w' => ∃ hd : Hd, e = .returned (.slice hd.ao (varsOfF l hs).length hd.cap) ∧ Owns w' hd (rowS (varsOfF l hs)) ∧ (∀ x, hd.blk = some x → w.heap.size ≤ x) ∧ Kept [] w w' := by
  obtain ⟨i0, hi, hz0, hz1, hz2⟩ := info_parts infoS
  have hll := ok.len
  have HE : Hid (varsTo l hs hs.length = varsOfF l hs) := by show _ = _; unfold varsTo varsOfF; rw [List.take_length]
  rw [← HE.out]
  clear HE
  obtain ⟨AO, HAO⟩ : ∃ AO, Hid (hh.ao = AO) := ⟨_, rfl⟩
  rw [HAO.out]
  go_enter Tryz.func71, Tryz.ntmps71
  go_wp2
  go_loopg [5, 6] hs.length (fun gk sv i wr => ∃ (k : Nat) (hd : Hd), k ≤ hs.length ∧ gk = hs.length - k ∧ i = .int .i64 k ∧ sv = .slice hd.ao (varsTo l hs k).length hd.cap ∧ Owns wr hd (rowS (varsTo l hs k)) ∧ (∀ x, hd.blk = some x → w.heap.size ≤ x) ∧ Kept [] w wr)
  case atStart => exact ⟨0, ⟨none, 0⟩, by omega, by omega, rfl, rfl, World.ownsRow_nil _ _ _ _, by intro x hx; simp [Hd.blk] at hx, Kept.refl _ _⟩
  case round =>
    obtain ⟨k, hd, hk, hg, rfl, rfl, hO, hN, hK⟩ := hrel
    have hr := h.still hK
    have hal := varsTo_len l hs k
    by_cases hlt : k < hs.length
    · have hnl := hlt0 hs[k] (List.getElem_mem hlt)
      have hOHr : Owns wr hh (rowN hs) := hOH.moved (fun x hx => hK.block x (hOH.lt hx) (by simp))
      rcases hOHr.ways with ⟨_, h0, _⟩ | ⟨gh, curh, eh, eh2, eh3, -⟩
      · have : hs.length = 0 := h0
        omega
      have ch := hOHr.cell eh k (.int .i64 hs[k]) (nums_at hs k hlt)
      have hAO : AO = some ⟨gh, 0, none⟩ := by rw [← HAO.out]; exact eh
      subst hAO
      have hki : (k : Int) < hs.length := by omega
      have HY := (show Hid _ from varsTo_yes l hs k hlt hnl)
      have HN0 := (show Hid _ from varsTo_no l hs k hlt hnl)
      have hsl := ok.syms hs[k] hnl
      clear eh eh2 eh3 hOHr HAO
      generalize hs[k] = q at *
      have VA := variable_any l[q] (H (10 + 2 * q)) (H (11 + 2 * q))
      unfold stVal at VA
      have HVA := (show Hid _ from VA)
      clear VA
      go_upto_region 6 with (go_at_call 53; refine (statement_any b o q l H _ (by exact hr) hnl).mono ?_; rintro e w3 ⟨rfl, hk3⟩; unfold stVal)
      obtain ⟨W4, hW4⟩ : ∃ W4, W4 = w3.alloc (.cells #[.int .i64 l[q].kind, .string l[q].label, .slice (H (10 + 2 * q)).ao l[q].symbols.length (H (10 + 2 * q)).cap, .slice (H (11 + 2 * q)).ao l[q].proof.length (H (11 + 2 * q)).cap, .string l[q].fin.file, .int .i64 l[q].fin.line, .int .i64 l[q].fin.col, .int .i64 l[q].til] 119) := ⟨_, rfl⟩
      have hk4 : Kept [] wr W4 := by rw [hW4]; exact hk3.alloc _
      have B4 : W4.heap[w3.heap.size]? = some (.cells #[.int .i64 l[q].kind, .string l[q].label, .slice (H (10 + 2 * q)).ao l[q].symbols.length (H (10 + 2 * q)).cap, .slice (H (11 + 2 * q)).ao l[q].proof.length (H (11 + 2 * q)).cap, .string l[q].fin.file, .int .i64 l[q].fin.line, .int .i64 l[q].fin.col, .int .i64 l[q].til] 119 (0, 0)) := by rw [hW4]; exact heap_alloc_new _ _
      rw [← hW4]
      clear hW4
      have u0 : W4.cell? ⟨w3.heap.size, 0, none⟩ = some (.int .i64 l[q].kind) := by rw [cell_of B4]; rfl
      have u1 : W4.cell? ⟨w3.heap.size, 1, none⟩ = some (.string l[q].label) := by rw [cell_of B4]; rfl
      have u2 : W4.cell? ⟨w3.heap.size, 2, none⟩ = some (.slice (H (10 + 2 * q)).ao l[q].symbols.length (H (10 + 2 * q)).cap) := by rw [cell_of B4]; rfl
      have u3 : W4.cell? ⟨w3.heap.size, 3, none⟩ = some (.slice (H (11 + 2 * q)).ao l[q].proof.length (H (11 + 2 * q)).cap) := by rw [cell_of B4]; rfl
      have u4 : W4.cell? ⟨w3.heap.size, 4, none⟩ = some (.string l[q].fin.file) := by rw [cell_of B4]; rfl
      have u5 : W4.cell? ⟨w3.heap.size, 5, none⟩ = some (.int .i64 l[q].fin.line) := by rw [cell_of B4]; rfl
      have u6 : W4.cell? ⟨w3.heap.size, 6, none⟩ = some (.int .i64 l[q].fin.col) := by rw [cell_of B4]; rfl
      have u7 : W4.cell? ⟨w3.heap.size, 7, none⟩ = some (.int .i64 l[q].til) := by rw [cell_of B4]; rfl
      have hr4 := hr.still hk4
      have hO4 : Owns W4 hd (rowS (varsTo l hs k)) := hO.moved (fun x hx => hk4.block x (hO.lt hx) (by simp))
      have hV4 := (hr4.sts.syms q l[q] (List.getElem?_eq_getElem hnl)).view
      have hK4 := hK.trans hk4
      cases h2 : (l[q].kind == 2)
      · have HT := (show Hid _ from HN0.out h2)
        clear HY HN0
        go_wp2
        go_roundg (hs.length - (k + 1))
        case measure => omega
        case rel => exact ⟨k + 1, hd, by omega, rfl, by go_num, by rw [HT.out], by rw [HT.out]; exact hO4, hN, hK4⟩
      · have HT := (show Hid _ from HY.out h2)
        clear HY HN0
        go_wp2_with (first | (go_at_call 89; refine (HVA.out _ (by exact hV4) (by omega)).mono ?_; rintro e w5 ⟨rfl, k5⟩; have hO5 := hO4.moved (fun x hx => (k5.alloc (.cells #[.string (variableF l[q])] 9)).block x (hO4.lt hx) (by simp))) | (at_builtin; refine wpList_append_row _ rfl (.tmp 23) (.tmp 26) 22 rfl i0 (.string ⟨#[]⟩) 16 hd (rowS (varsTo l hs k)) Tryz.underlying22 hi hz0 hz1 hz2 rfl Nat.one_pos rfl (by exact hO5) ⟨_, 0, none⟩ 1 1 [.string (variableF l[q])] rfl rfl ?d1 ?d2 Nat.one_pos ?d3 ?d4 ?_))
        case d1 => intro j u hj; match j, hj with | 0, hj => simp at hj; subst hj; simp [Addr.add]
        case d2 => intro u hu; simp at hu; subst hu; rfl
        case d3 => simp only [rowS]; unfold maxLen; omega
        case d4 => simp only [rowS]; omega
        intro g6 cap6 w6 hw6 hgr6 hfresh6
        rw [rowS_snoc (varsTo l hs k) (variableF l[q]), ← HT.out] at hw6
        have hK5 := (hK4.trans k5).alloc (.cells #[.string (variableF l[q])] 9)
        have hK6 := hK5.grown hgr6 hN
        have hg6 : w.heap.size ≤ g6 := by
          rcases hfresh6 with e | e
          · exact hN g6 e
          · have := hK5.size; simp at e this; omega
        have hEl : Hid ((rowS (varsTo l hs k)).n + 1 = (varsTo l hs (k + 1)).length) := by show _ = _; rw [HT.out]; simp [rowS]
        rw [hEl.out]
        clear hgr6 hfresh6 hO5
        go_wp2
        go_roundg (hs.length - (k + 1))
        case measure => omega
        case rel => exact ⟨k + 1, ⟨some ⟨g6, 0, none⟩, cap6⟩, by omega, rfl, by go_num, rfl, hw6, by intro x hx; simp [Hd.blk] at hx; omega, hK6⟩
    · have e : k = hs.length := by omega
      subst e
      go_wp2
      go_ret
      exact ⟨hd, rfl, hO, hN, hK⟩

end Go.Proofs.YtcipkfhpcbddiaaGreat

/- Package frames: line. -/
namespace Go.Proofs.YtcipkfhpcbddiaaGreat
open Go.RowKit

set_option maxHeartbeats 2000000 in
set_option maxRecDepth 100000 in
theorem line_any (s : St) (ha hb : Hd) (w : World) (hv : View w ha s.symbols) (hsl : s.symbols.length ≤ 10000) (sz : SzOk s) :
    Calls Tryz.prog 57 #[stVal s ha hb] w fun e w' => e = .returned (.string (lineF s)) ∧ Kept [] w w' := by
  unfold stVal
  have hls := sz.label
  have hks := keyF_size s.kind
  have H0 : Hid (s.label ++ ⟨#[32]⟩ ++ keyF s.kind = lineTo s 0) := rfl
  obtain ⟨X, hX⟩ : ∃ X, X = w.alloc (.cells #[.int .i64 s.kind, .string s.label, .slice ha.ao s.symbols.length ha.cap, .slice hb.ao s.proof.length hb.cap, .string s.fin.file, .int .i64 s.fin.line, .int .i64 s.fin.col, .int .i64 s.til] 119) := ⟨_, rfl⟩
  have kX : Kept [] w X := by rw [hX]; exact (Kept.refl [] _).alloc _
  have BX : X.heap[w.heap.size]? = some (.cells #[.int .i64 s.kind, .string s.label, .slice ha.ao s.symbols.length ha.cap, .slice hb.ao s.proof.length hb.cap, .string s.fin.file, .int .i64 s.fin.line, .int .i64 s.fin.col, .int .i64 s.til] 119 (0, 0)) := by rw [hX]; exact heap_alloc_new _ _
  have u0 : X.cell? ⟨w.heap.size, 0, none⟩ = some (.int .i64 s.kind) := by rw [cell_of BX]; rfl
  have u1 : X.cell? ⟨w.heap.size, 1, none⟩ = some (.string s.label) := by rw [cell_of BX]; rfl
  have HX := (show Hid _ from hX.symm)
  clear hX
  go_enter Tryz.func57, Tryz.ntmps57
  go_upto_region 1 with fail
  rw [HX.out]
  go_quiet ((go_at_call 73; exact Calls.quiet_of_same (keyword_any _ _)))
  rw [H0.out]
  obtain ⟨wq, hwq⟩ : ∃ wq, wq = X.drewN nq := ⟨_, rfl⟩
  rw [← hwq]
  have kq : Kept [] w wq := by rw [hwq]; exact kX.drewN _
  have Bq : wq.heap[w.heap.size]? = some (.cells #[.int .i64 s.kind, .string s.label, .slice ha.ao s.symbols.length ha.cap, .slice hb.ao s.proof.length hb.cap, .string s.fin.file, .int .i64 s.fin.line, .int .i64 s.fin.col, .int .i64 s.til] 119 (0, 0)) := by rw [hwq]; exact ((Kept.refl [] X).drewN _).get BX (by simp)
  have v2 : wq.cell? ⟨w.heap.size, 2, none⟩ = some (.slice ha.ao s.symbols.length ha.cap) := by rw [cell_of Bq]; rfl
  have hvq := hv.still kq
  have hbz := lt_of_get Bq
  clear hwq u0 u1
  go_wp2
  go_loopg [3, 4] s.symbols.length (fun g tv i wr => ∃ k : Nat, k ≤ s.symbols.length ∧ g = s.symbols.length - k ∧ i = .int .i64 k ∧ tv = .string (lineTo s k) ∧ wr = wq)
  case atStart => exact ⟨0, by omega, by omega, rfl, rfl, rfl⟩
  case round =>
    obtain ⟨k, hk, hg, rfl, rfl, rfl⟩ := hrel
    by_cases hlt : k < s.symbols.length
    · have hsz := lineTo_size s sz k hk
      have hx := sz.syms _ (List.getElem_mem hlt)
      have HT := (show Hid _ from (lineTo_next s k hlt).symm)
      have hki : (k : Int) < s.symbols.length := by omega
      rcases hvq with hn | ⟨g, off, cur, t, e1, e2, e3, e4, e5⟩
      · rw [hn] at hlt; simp at hlt
      · have cx : wr.cell? ⟨g, off + k, none⟩ = some (.string s.symbols[k]) := by rw [cell_of e2]; exact e3 k _ (List.getElem?_eq_getElem hlt)
        rw [e1] at v2
        have hsn := lineTo_size s sz (k + 1) hlt
        clear e3
        generalize s.symbols[k] = y at *
        generalize lineTo s k = tx at *
        go_wp2
        go_roundg (s.symbols.length - (k + 1))
        case measure => omega
        case rel => exact ⟨k + 1, by omega, rfl, by go_num, congrArg Value.string HT.out, rfl⟩
    · have e : k = s.symbols.length := by omega
      subst e
      go_wp2
      go_ret
      exact ⟨rfl, kq⟩

end Go.Proofs.YtcipkfhpcbddiaaGreat
