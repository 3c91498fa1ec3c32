/- Our texts: PuC, Rw, KEq, Mp0, Keep1, Read1. -/
import Derived.Deep.RegionHeld3
import Derived.Test.YtcipkfhpcbddiaaGreatG03
import Derived.Test.YtcipkfhpcbddiaaGreatG04
import Derived.Test.YtcipkfhpcbddiaaGreatG09
/- A text cut short: where it is well-formed, the whole goes on from there. No walk. -/
namespace Go.Proofs.YtcipkfhpcbddiaaGreat
open Go.RowKit

/-- S is the beginning of T. -/
structure CutT (S T : ByteArray) : Prop where
  le : S.size ≤ T.size
  same : ∀ i, i < S.size → byteAt T i = byteAt S i

theorem skip_cut {S T : ByteArray} (h : CutT S T) (k : Nat) (hk : k ≤ S.size) : (skip S k < S.size → skip T k = skip S k) ∧ (skip S k = S.size → skip T k = skip T S.size) := by
  have hle := h.le
  suffices H : ∀ n k, k ≤ S.size → S.size - k = n → (skip S k < S.size → skip T k = skip S k) ∧ (skip S k = S.size → skip T k = skip T S.size) from H _ k hk rfl
  intro n
  induction n with
  | zero =>
    intro k hk hn
    have e : k = S.size := by omega
    subst e
    have e1 : skip S S.size = S.size := skip_off S _ (by omega)
    exact ⟨fun h1 => by omega, fun _ => rfl⟩
  | succ n ih =>
    intro k hk hn
    have hkl : k < S.size := by omega
    cases hb : blankB (byteAt S k) with
    | true =>
      rw [skip_on S k hkl hb, skip_on T k (by omega) (by rw [h.same k hkl]; exact hb)]
      exact ih (k + 1) (by omega) (by omega)
    | false =>
      have e1 : skip S k = k := skip_off S k (by simp [hb])
      have e2 : skip T k = k := skip_off T k (by rw [h.same k hkl]; simp [hb])
      rw [e1, e2]
      exact ⟨fun _ => rfl, fun h1 => by omega⟩
theorem word_cut {S T : ByteArray} (h : CutT S T) (k : Nat) (hk : k ≤ S.size) : (wordEnd S k < S.size → wordEnd T k = wordEnd S k) ∧ (wordEnd S k = S.size → wordEnd T k = wordEnd T S.size) := by
  have hle := h.le
  suffices H : ∀ n k, k ≤ S.size → S.size - k = n → (wordEnd S k < S.size → wordEnd T k = wordEnd S k) ∧ (wordEnd S k = S.size → wordEnd T k = wordEnd T S.size) from H _ k hk rfl
  intro n
  induction n with
  | zero =>
    intro k hk hn
    have e : k = S.size := by omega
    subst e
    have e1 : wordEnd S S.size = S.size := word_off S _ (by omega)
    exact ⟨fun h1 => by omega, fun _ => rfl⟩
  | succ n ih =>
    intro k hk hn
    have hkl : k < S.size := by omega
    by_cases hb : blankB (byteAt S k) = false ∧ plainB (byteAt S k) = true
    · rw [word_on S k hkl hb.1 hb.2, word_on T k (by omega) (by rw [h.same k hkl]; exact hb.1) (by rw [h.same k hkl]; exact hb.2)]
      exact ih (k + 1) (by omega) (by omega)
    · have e1 := word_off S k (fun hh => hb ⟨hh.2.1, hh.2.2⟩)
      rw [e1, word_off T k (fun hh => hb (by rw [← h.same k hkl]; exact ⟨hh.2.1, hh.2.2⟩))]
      exact ⟨fun _ => rfl, fun h1 => by omega⟩
theorem extract_cut {S T : ByteArray} (h : CutT S T) (a z : Nat) (hz : z ≤ S.size) : T.extract a z = S.extract a z := by
  have hle := h.le
  apply ByteArray.ext
  apply Array.ext
  · simp; omega
  · intro i h1 h2
    have hi : a + i < S.size := by simp at h2; omega
    have := h.same (a + i) hi
    rw [byteAt_of T _ (by omega), byteAt_of S _ hi] at this
    have e : (T[a + i]'(by omega)).toNat = S[a + i].toNat := by omega
    have e2 : (T[a + i]'(by omega)) = S[a + i] := UInt8.toNat_inj.1 e
    simpa [ByteArray.getElem_eq_getElem_data] using e2

theorem run_cut {S T : ByteArray} (h : CutT S T) (k : Nat) (hk : k ≤ S.size) :
    ((runF S k).1.fin = true ∧ runF T k = runF T S.size) ∨ ((runF S k).1.fin = false ∧ runF T k = runF S k) ∨
    (isWordF (runF S k).1 = true ∧ isWordF (runF T k).1 = false ∧ (runF T k).1.fin = false) ∨
    (∃ a z, a < S.size ∧ S.size < z ∧ z ≤ T.size ∧ runF S k = (⟨S.extract a S.size, 0, false, a⟩, S.size) ∧ runF T k = (⟨T.extract a z, 0, false, a⟩, z)) := by
  have hle := h.le
  have sp := skip_cut h k hk
  have sl := skip_le S k hk
  have wp := word_cut h (skip S k) sl.2
  rcases runF_cases S k hk with ⟨z, hz, hw, hb, he⟩ | ⟨hs, he⟩ | ⟨z, hz1, hz2, hw, hb, he⟩
  · right; left
    refine ⟨by rw [he], ?_⟩
    have a := wordEnd_le S (skip S k) sl.2
    have es : skip T k = skip S k := sp.1 (by omega)
    have ew : wordEnd T (skip S k) = z := (wp.1 (by omega)).trans hw
    rw [he]
    simp only [runF, es, ew]
    rw [if_pos ⟨by omega, by rw [h.same z hz]; exact hb⟩]
  · left
    refine ⟨by rw [he], ?_⟩
    have es := sp.2 hs
    simp only [runF, es]
  · have es : skip T k = skip S k := sp.1 (by omega)
    rcases Nat.lt_or_ge z S.size with hl | hl
    · right; left
      refine ⟨by rw [he], ?_⟩
      have ew : wordEnd T (skip S k) = z := (wp.1 (by omega)).trans hw
      rw [he]
      simp only [runF, es, ew]
      have hne : ¬ (z < T.size ∧ blankB (byteAt T z) = false) := by
        rintro ⟨_, hbz⟩
        rw [h.same z hl] at hbz; exact hb ⟨hl, hbz⟩
      rw [if_neg hne, if_neg (by omega), extract_cut h _ _ hz2]
    · have ez : z = S.size := by omega
      subst ez
      have ew : wordEnd T (skip S k) = wordEnd T S.size := wp.2 hw
      have wl := wordEnd_le T S.size hle
      rcases runF_cases T k (by omega) with ⟨y, hy, hwy, hby, hey⟩ | ⟨hsy, hey⟩ | ⟨y, hy1, hy2, hwy, hby, hey⟩
      · right; right; left; rw [he, hey]; exact ⟨rfl, rfl, rfl⟩
      · omega
      · rw [es] at hwy hy1 hey
        rw [ew] at hwy
        rcases Nat.lt_or_ge S.size y with hg | hg
        · right; right; right; exact ⟨skip S k, y, by omega, hg, hy2, he, hey⟩
        · have e : y = S.size := by omega
          subst e
          right; left
          refine ⟨by rw [he], ?_⟩
          rw [he, hey, extract_cut h _ _ (Nat.le_refl _)]
theorem two_bytes (d : ByteArray) (c : UInt8) (h : (d.toList == [36, c]) = true) : d.size = 2 ∧ byteAt d 0 = 36 ∧ byteAt d 1 = (c.toNat : Int) := by
  have hl : d.toList = [36, c] := by simpa using h
  have hl2 : d.data.toList = [36, c] := by rw [← ByteArray.toList_eq]; exact hl
  have hd : d = ⟨#[36, c]⟩ := by
    apply ByteArray.ext
    apply Array.toList_inj.1
    exact hl2
  subst hd
  exact ⟨rfl, rfl, rfl⟩
theorem long_not (d : ByteArray) (a b : UInt8) (h : 2 < d.size) : (d.toList == [a, b]) = false := by
  rw [beq_eq_false_iff_ne]
  intro e
  have : d.toList.length = 2 := by rw [e]; rfl
  rw [ByteArray.toList_eq] at this
  have h2 : d.data.toList.length = d.size := Array.length_toList
  omega
theorem byteAt_extract (d : ByteArray) (a z i : Nat) (hz : z ≤ d.size) (hi : a + i < z) : byteAt (d.extract a z) i = byteAt d (a + i) := by
  have h1 : i < (d.extract a z).size := by simp; omega
  rw [byteAt_of _ _ h1, byteAt_of d _ (by omega)]
  congr 2
  simp [ByteArray.getElem_eq_getElem_data]
/-- A word of two bytes that the cut made; the whole has a longer one. -/
theorem longer {S T : ByteArray} (h : CutT S T) (a z : Nat) (c : UInt8) (ha : a < S.size) (hz : S.size < z) (hzt : z ≤ T.size) (hw : ((S.extract a S.size).toList == [36, c]) = true) :
    2 < (T.extract a z).size ∧ byteAt (T.extract a z) 0 = 36 ∧ byteAt (T.extract a z) 1 = (c.toNat : Int) := by
  obtain ⟨h1, h2, h3⟩ := two_bytes _ c hw
  have hs : S.size = a + 2 := by simp at h1; omega
  rw [byteAt_extract S a S.size 0 (Nat.le_refl _) (by omega), Nat.add_zero] at h2
  rw [byteAt_extract S a S.size 1 (Nat.le_refl _) (by omega)] at h3
  refine ⟨by simp; omega, ?_, ?_⟩
  · rw [byteAt_extract T a z 0 hzt (by omega), Nat.add_zero, h.same a ha]; exact h2
  · rw [byteAt_extract T a z 1 hzt (by omega), h.same (a + 1) (by omega)]; exact h3

theorem comment_nil (S : ByteArray) : isWordF (commentF S S.size).1 = false := by
  have hr : runF S S.size = (⟨⟨#[]⟩, 0, true, S.size⟩, S.size) := runF_no S S.size (Nat.le_refl _) (Nat.le_refl _)
  rw [comment_open S S.size (by rw [hr]; rfl) (by rw [hr])]; rfl

theorem comment_cut {S T : ByteArray} (h : CutT S T) (k : Nat) (hk : k ≤ S.size) (hw : isWordF (commentF S k).1 = true) : commentF T k = commentF S k ∨ isWordF (commentF T k).1 = false := by
  have hle := h.le
  suffices H : ∀ n k, k ≤ S.size → S.size - k ≤ n → isWordF (commentF S k).1 = true → commentF T k = commentF S k ∨ isWordF (commentF T k).1 = false from H _ k hk (Nat.le_refl _) hw
  clear hk hw k
  intro n
  induction n with
  | zero =>
    intro k hk hn hw
    have e : k = S.size := by omega
    subst e
    rw [comment_nil S] at hw; cases hw
  | succ n ih =>
    intro k hk hn hw
    have rl := runF_le S k hk
    rcases run_cut h k hk with ⟨hf, _⟩ | ⟨hf, er⟩ | ⟨_, hb, hf⟩ | ⟨a, z, ha, hz, hzt, es, et⟩
    · have hwf : isWordF (runF S k).1 = false := by simp [isWordF, hf]
      rw [comment_open S k hwf hf] at hw; cases hw
    · cases hw1 : isWordF (runF S k).1 with
      | true =>
        have rl2 := rl.2.2 hw1
        cases hx : ((runF S k).1.text.toList == [36, 41]) with
        | true => left; rw [comment_close S k hw1 hx, comment_close T k (by rw [er]; exact hw1) (by rw [er]; exact hx), er]
        | false =>
          cases hy : bracketF (runF S k).1.text with
          | true => rw [comment_nest S k hw1 hx hy] at hw; cases hw
          | false =>
            rw [comment_on S k hk hw1 hx hy] at hw ⊢
            rw [comment_on T k (by omega) (by rw [er]; exact hw1) (by rw [er]; exact hx) (by rw [er]; exact hy), er]
            exact ih _ rl.2.1 (by omega) hw
      | false => rw [comment_bad S k hw1 hf, hw1] at hw; cases hw
    · right; rw [comment_bad T k hb hf]; exact hb
    · have hw1 : isWordF (runF S k).1 = true := by rw [es]; rfl
      have hw2 : isWordF (runF T k).1 = true := by rw [et]; rfl
      cases hx : ((runF S k).1.text.toList == [36, 41]) with
      | true =>
        right
        rw [es] at hx
        obtain ⟨l1, l2, l3⟩ := longer h a z 41 ha hz hzt hx
        have hbr : bracketF (T.extract a z) = true := any_yes 1 (by omega) (by simp [l2, l3])
        rw [comment_nest T k hw2 (by rw [et]; exact long_not _ _ _ l1) (by rw [et]; exact hbr)]; rfl
      | false =>
        cases hy : bracketF (runF S k).1.text with
        | true => rw [comment_nest S k hw1 hx hy] at hw; cases hw
        | false =>
          rw [comment_on S k hk hw1 hx hy, es, comment_nil S] at hw; cases hw

theorem next_cut {S T : ByteArray} (h : CutT S T) (k : Nat) (hk : k ≤ S.size) :
    (isWordF (nextF S k).1 = true → nextF T k = nextF S k ∨ (isWordF (nextF T k).1 = false ∧ (nextF T k).1.fin = false) ∨
      (∃ a z j, a < S.size ∧ S.size < z ∧ z ≤ T.size ∧ j ≤ S.size ∧ nextF S k = (⟨S.extract a S.size, 0, false, a⟩, S.size) ∧ runF T j = (⟨T.extract a z, 0, false, a⟩, z) ∧ nextF T k = nextF T j)) ∧
    ((nextF S k).1.fin = true → nextF T k = nextF T S.size ∨ (isWordF (nextF T k).1 = false ∧ (nextF T k).1.fin = false)) := by
  have hle := h.le
  suffices H : ∀ n k, k ≤ S.size → S.size - k ≤ n → (isWordF (nextF S k).1 = true → nextF T k = nextF S k ∨ (isWordF (nextF T k).1 = false ∧ (nextF T k).1.fin = false) ∨
      (∃ a z j, a < S.size ∧ S.size < z ∧ z ≤ T.size ∧ j ≤ S.size ∧ nextF S k = (⟨S.extract a S.size, 0, false, a⟩, S.size) ∧ runF T j = (⟨T.extract a z, 0, false, a⟩, z) ∧ nextF T k = nextF T j)) ∧
    ((nextF S k).1.fin = true → nextF T k = nextF T S.size ∨ (isWordF (nextF T k).1 = false ∧ (nextF T k).1.fin = false)) from H _ k hk (Nat.le_refl _)
  clear hk k
  intro n
  induction n with
  | zero =>
    intro k hk hn
    have e : k = S.size := by omega
    subst e
    have hr : runF S S.size = (⟨⟨#[]⟩, 0, true, S.size⟩, S.size) := runF_no S S.size (Nat.le_refl _) (Nat.le_refl _)
    have hn' : nextF S S.size = runF S S.size := next_plain S _ (Or.inl (by rw [hr]; rfl))
    rw [hn', hr]
    exact ⟨fun hw => by simp [isWordF] at hw, fun _ => Or.inl rfl⟩
  | succ n ih =>
    intro k hk hn
    have rl := runF_le S k hk
    rcases run_cut h k hk with ⟨hf, er⟩ | ⟨hf, er⟩ | ⟨hws, hb, hf⟩ | ⟨a, z, ha, hz, hzt, es, et⟩
    · have hwf : isWordF (runF S k).1 = false := by simp [isWordF, hf]
      rw [next_plain S k (Or.inl hwf)]
      exact ⟨fun hw => (by rw [hwf] at hw; cases hw), fun _ => Or.inl (next_congr T _ _ (by omega) hle er)⟩
    · by_cases hc : isWordF (runF S k).1 = true ∧ ((runF S k).1.text.toList == [36, 40]) = true
      · have rl2 := rl.2.2 hc.1
        cases hcw : isWordF (commentF S (runF S k).2).1 with
        | true =>
          have cl := commentF_le S (runF S k).2 rl.2.1
          rcases comment_cut h (runF S k).2 rl.2.1 hcw with ec | ec
          · rw [next_on S k hk hc.1 hc.2 hcw, next_on T k (by omega) (by rw [er]; exact hc.1) (by rw [er]; exact hc.2) (by rw [er, ec]; exact hcw), er, ec]
            exact ih _ cl.2 (by omega)
          · have et : nextF T k = commentF T (runF T k).2 := next_broken T k (by rw [er]; exact hc.1) (by rw [er]; exact hc.2) (by rw [er]; exact ec)
            rw [et, er]
            exact ⟨fun _ => Or.inr (Or.inl ⟨ec, commentF_fin _ _⟩), fun _ => Or.inr ⟨ec, commentF_fin _ _⟩⟩
        | false =>
          rw [next_broken S k hc.1 hc.2 hcw]
          exact ⟨fun hw => (by rw [hcw] at hw; cases hw), fun hf' => (by rw [commentF_fin] at hf'; cases hf')⟩
      · have hc' : isWordF (runF S k).1 = false ∨ ((runF S k).1.text.toList == [36, 40]) = false := by
          cases h1 : isWordF (runF S k).1 with
          | false => exact Or.inl rfl
          | true =>
            cases h2 : ((runF S k).1.text.toList == [36, 40]) with
            | false => exact Or.inr rfl
            | true => exact absurd ⟨h1, h2⟩ hc
        rw [next_plain S k hc', next_plain T k (by rw [er]; exact hc'), er]
        exact ⟨fun _ => Or.inl rfl, fun hf' => by rw [hf] at hf'; cases hf'⟩
    · rw [next_plain T k (Or.inl hb)]
      exact ⟨fun _ => Or.inr (Or.inl ⟨hb, hf⟩), fun _ => Or.inr ⟨hb, hf⟩⟩
    · have hw1 : isWordF (runF S k).1 = true := by rw [es]; rfl
      cases hx : ((runF S k).1.text.toList == [36, 40]) with
      | true =>
        have hcn : isWordF (commentF S (runF S k).2).1 = false := by rw [es]; exact comment_nil S
        rw [next_broken S k hw1 hx hcn]
        exact ⟨fun hw => (by rw [hcn] at hw; cases hw), fun hf' => (by rw [commentF_fin] at hf'; cases hf')⟩
      | false =>
        rw [next_plain S k (Or.inr hx)]
        refine ⟨fun _ => Or.inr (Or.inr ⟨a, z, k, ha, hz, hzt, hk, es, et, rfl⟩), fun hf' => by rw [es] at hf'; cases hf'⟩

theorem take_closes (d : Db) (w : ByteArray) (p : Pl) (h : (takeF d w p).1 = 0) (ho : openF (takeF d w p).2 = false) : (w.toList == [36, 46]) = true ∨ (w.toList == [36, 125]) = true := by
  cases h46 : (w.toList == [36, 46]) with
  | true => exact Or.inl rfl
  | false =>
    cases h125 : (w.toList == [36, 125]) with
    | true => exact Or.inr rfl
    | false =>
      exfalso
      unfold takeF at h ho
      rw [h46] at h ho
      cases hk0 : (d.kind == 0) with
      | true =>
        rw [if_pos hk0] at h ho
        unfold takeFirstF at h ho
        rw [h125] at h ho
        repeat' split at h
        all_goals first | (simp at h; done) | skip
        all_goals simp_all [openF, takeLabelF]
        all_goals (repeat' split at ho)
        all_goals simp_all
      | false =>
        have hk0' : d.kind ≠ 0 := by simpa using hk0
        have hop : ∀ d' : Db, d'.kind ≠ 0 → openF d' = true := fun d' hd => by unfold openF; simp [hd]
        rw [if_neg (by rw [hk0]; simp)] at h ho
        cases hk6 : (d.kind == 6) with
        | true =>
          rw [if_pos hk6] at h ho
          unfold takeKeywordF at h ho
          cases e1 : (w.toList == [36, 102]) with
          | true => rw [e1, if_pos rfl, hop _ (by simp)] at ho; cases ho
          | false =>
            cases e2 : (w.toList == [36, 101]) with
            | true => rw [e1, e2, if_neg (by simp), if_pos rfl, hop _ (by simp)] at ho; cases ho
            | false =>
              cases e3 : (w.toList == [36, 97]) with
              | true => rw [e1, e2, e3, if_neg (by simp), if_neg (by simp), if_pos rfl, hop _ (by simp)] at ho; cases ho
              | false =>
                cases e4 : (w.toList == [36, 112]) with
                | true => rw [e1, e2, e3, e4, if_neg (by simp), if_neg (by simp), if_neg (by simp), if_pos rfl, hop _ (by simp)] at ho; cases ho
                | false => rw [e1, e2, e3, e4] at h; simp at h
        | false =>
          rw [if_neg (by rw [hk6]; simp), if_neg (by simp)] at h ho
          have key : ∀ R : Int × Db, R.2.kind = d.kind → openF R.2 = false → False := fun R hR ho => by
            rw [hop _ (by rw [hR]; exact hk0')] at ho; cases ho
          refine key _ ?_ ho
          unfold beginProofF
          repeat' split
          all_goals rfl

theorem take_long (d : Db) (w : ByteArray) (p : Pl) (hs : 2 < w.size) (hd : dollarF w = true) : (takeF d w p).1 ≠ 0 := by
  have hn := fun a b => long_not w a b hs
  unfold takeF
  split
  · unfold takeFirstF takeLabelF
    simp only [hn, hd, Bool.false_eq_true, if_false, if_true, or_self]; decide
  · split
    · unfold takeKeywordF
      simp only [hn, Bool.false_eq_true, if_false]; decide
    · simp only [hn, Bool.false_eq_true, if_false, false_and]; decide

theorem line_cut {S T : ByteArray} (h : CutT S T) (p : Nat) (hp : p ≤ S.size) : lineAt T p = lineAt S p ∧ colAt T p = colAt S p := by
  induction p with
  | zero => exact ⟨rfl, rfl⟩
  | succ p ih =>
    have i := ih (by omega)
    rw [lineAt, lineAt, colAt, colAt, h.same p (by omega), i.1, i.2]
    exact ⟨rfl, rfl⟩
theorem plAt_cut {S T : ByteArray} (h : CutT S T) (n : ByteArray) (p : Nat) (hp : p ≤ S.size) : plAt n T p = plAt n S p := by
  unfold plAt; rw [(line_cut h p hp).1, (line_cut h p hp).2]

theorem read_cut {S T : ByteArray} (h : CutT S T) (nm : ByteArray) (k : Nat) (d : Db) (hk : k ≤ S.size) (hS : (readF nm S k d).1.1 = 0) (hT : (readF nm T k d).1.1 = 0) :
    openF (readF nm S k d).2 = false ∧ ∃ j, readF nm T k d = readF nm T j (readF nm S k d).2 := by
  have hle := h.le
  have bad : ∀ k d, isWordF (nextF T k).1 = false → (nextF T k).1.fin = false → (readF nm T k d).1.1 = 0 → False := by
    intro k d hw hf h0
    rw [read_bad nm T k d hw hf] at h0
    have := isWordF_not hw hf
    simp only at h0
    rw [h0] at this; simp at this
  suffices H : ∀ n k d, k ≤ S.size → S.size - k ≤ n → (readF nm S k d).1.1 = 0 → (readF nm T k d).1.1 = 0 → openF (readF nm S k d).2 = false ∧ ∃ j, readF nm T k d = readF nm T j (readF nm S k d).2 from H _ k d hk (Nat.le_refl _) hS hT
  clear hk hS hT k d
  have atEnd : ∀ d, (readF nm S S.size d).1.1 = 0 → openF d = false ∧ (readF nm S S.size d).2 = d := by
    intro d h0
    have hr : runF S S.size = (⟨⟨#[]⟩, 0, true, S.size⟩, S.size) := runF_no S S.size (Nat.le_refl _) (Nat.le_refl _)
    have hn' : nextF S S.size = runF S S.size := next_plain S _ (Or.inl (by rw [hr]; rfl))
    have hw : isWordF (nextF S S.size).1 = false := by rw [hn', hr]; rfl
    have hf : (nextF S S.size).1.fin = true := by rw [hn', hr]
    cases ho : openF d with
    | true => rw [read_open nm S _ d hw hf ho] at h0; simp at h0
    | false => rw [read_end nm S _ d hw hf ho]; exact ⟨rfl, rfl⟩
  intro n
  induction n with
  | zero =>
    intro k d hk hn hS hT
    have e : k = S.size := by omega
    subst e
    obtain ⟨a1, a2⟩ := atEnd d hS
    rw [a2]
    exact ⟨a1, S.size, rfl⟩
  | succ n ih =>
    intro k d hk hn hS hT
    have nl := nextF_le S k hk
    have nc := next_cut h k hk
    cases hw : isWordF (nextF S k).1 with
    | true =>
      have nl2 := nl.2.2 hw
      have ep := plAt_cut h nm (nextF S k).1.pos (nextF_pos S k hk).2
      cases ht : ((takeF d (nextF S k).1.text (plAt nm S (nextF S k).1.pos)).1 == 0) with
      | true =>
        rcases nc.1 hw with en | ⟨hb, hf⟩ | ⟨a, z, j, ha, hz, hzt, hj, es, et, en⟩
        · rw [read_on nm S k d hk hw ht] at hS ⊢
          rw [read_on nm T k d (by omega) (by rw [en]; exact hw) (by rw [en, ep]; exact ht), en, ep] at hT ⊢
          exact ih _ _ nl.2.1 (by omega) hS hT
        · exact absurd hT (fun h0 => bad k d hb hf h0)
        · exfalso
          rw [read_on nm S k d hk hw ht] at hS
          rw [es] at hS ht
          obtain ⟨a1, -⟩ := atEnd _ hS
          have hcl : ∃ c : UInt8, ((S.extract a S.size).toList == [36, c]) = true ∧ c ≠ 40 := by
            rcases take_closes d _ _ (by simpa using ht) a1 with e | e
            · exact ⟨46, e, by decide⟩
            · exact ⟨125, e, by decide⟩
          obtain ⟨c, hc, _⟩ := hcl
          obtain ⟨l1, l2, l3⟩ := longer h a z c ha hz hzt hc
          have hdl : dollarF (T.extract a z) = true := any_yes 0 (by omega) (by simp [l2])
          have ej : nextF T j = runF T j := next_plain T j (Or.inr (by rw [et]; exact long_not _ _ _ l1))
          rw [ej, et] at en
          have hl := take_long d (T.extract a z) (plAt nm T a) l1 hdl
          rw [read_rule nm T k d (by rw [en]; rfl) (by rw [en]; simpa using hl), en] at hT
          exact hl hT
      | false =>
        rw [read_rule nm S k d hw ht] at hS
        simp only at hS
        rw [hS] at ht; simp at ht
    | false =>
      cases hf : (nextF S k).1.fin with
      | true =>
        cases ho : openF d with
        | true => rw [read_open nm S k d hw hf ho] at hS; simp at hS
        | false =>
          rw [read_end nm S k d hw hf ho]
          rcases nc.2 hf with en | ⟨hb, hf2⟩
          · exact ⟨ho, S.size, read_congr nm T _ _ d (by omega) hle en⟩
          · exact absurd hT (fun h0 => bad k d hb hf2 h0)
      | false =>
        rw [read_bad nm S k d hw hf] at hS
        have := isWordF_not hw hf
        simp only at hS
        rw [hS] at this; simp at this

theorem cut_of (T : ByteArray) (k : Nat) (hk : k ≤ T.size) : CutT (T.extract 0 k) T := by
  have hs : (T.extract 0 k).size = k := by simp; omega
  refine ⟨by omega, fun i hi => ?_⟩
  rw [byteAt_extract T 0 k i hk (by omega), Nat.zero_add]
/-- What is said of a shorter text is said of the whole. -/
theorem cut_sts (T : ByteArray) (k : Nat) (hk : k ≤ T.size) (hT : (rdM T).1.1 = 0) (hS : (rdM (T.extract 0 k)).1.1 = 0) : ∃ m, (rdM T).2.sts = (rdM (T.extract 0 k)).2.sts ++ m := by
  obtain ⟨ho, j, he⟩ := read_cut (cut_of T k hk) ⟨#[109]⟩ 0 emptyDb (Nat.zero_le _) hS hT
  obtain ⟨m, hm⟩ := readTo_bnd ⟨#[109]⟩ (T.extract 0 k) ((T.extract 0 k).size - 0 + 1) 0 emptyDb ⟨0, Bnd.empty⟩
  have x := readF_ext ⟨#[109]⟩ T j _ (Ext.begin (d := (readF ⟨#[109]⟩ (T.extract 0 k) 0 emptyDb).2) hm ho)
  rw [← he] at x
  exact x.pre
theorem holds_cut (T : ByteArray) (k : Nat) (hk : k ≤ T.size) (h : holdsF T = false) : holdsF (T.extract 0 k) = false := by
  have c := cut_of T k hk
  have hs : (T.extract 0 k).size = k := by simp; omega
  rw [holds_iff] at h ⊢
  rintro i hi ⟨h1, h2⟩
  exact h i (by omega) ⟨by rw [c.same i (by omega)]; exact h1, by rw [c.same (i + 1) (by omega)]; exact h2⟩

end Go.Proofs.YtcipkfhpcbddiaaGreat

/- Rows of a report. -/
namespace Go.Proofs.YtcipkfhpcbddiaaGreat
open Go.RowKit

structure Rw where
  label : ByteArray
  verdict : Int
  why : Int
  at_ : Pl
def rwV (r : Rw) : List Value := [.string r.label, .int .i64 r.verdict, .int .i64 r.why, .string r.at_.file, .int .i64 r.at_.line, .int .i64 r.at_.col]
def rwsV (l : List Rw) : List Value := l.flatMap rwV
def rowR (l : List Rw) : Row := ⟨59, 6, l.length, rwsV l⟩
def noPl : Pl := ⟨⟨#[]⟩, 0, 0⟩
def zRw : Rw := ⟨⟨#[]⟩, 0, 0, noPl⟩
theorem rowR_snoc (l : List Rw) (s : Rw) : (⟨(rowR l).e, (rowR l).size, (rowR l).n + 1, (rowR l).xs ++ rwV s⟩ : Row) = rowR (l ++ [s]) := by simp [rowR, rwsV]
theorem rwV_one (s : Rw) : ∀ u ∈ rwV s, u.oneCell' = true := by
  intro u hu
  simp only [rwV, List.mem_cons, List.not_mem_nil, or_false] at hu
  rcases hu with rfl | rfl | rfl | rfl | rfl | rfl <;> rfl
theorem infoR : (Tryz.prog.info? 59).map (fun i => (i.zero, i.size, i.bytes)) = some (some (.agg #[.string ⟨#[]⟩, .int .i64 0, .int .i64 0, .string ⟨#[]⟩, .int .i64 0, .int .i64 0]), 6, 64) := by kernel_rfl
theorem rwsV_len (l : List Rw) : (rwsV l).length = l.length * 6 := by
  induction l with
  | nil => rfl
  | cons x r ih => have e : rwsV (x :: r) = rwV x ++ rwsV r := rfl
                   rw [e, List.length_append, ih]; simp [rwV]; omega
theorem rwsV_at (l : List Rw) (k : Nat) (hk : k < l.length) (j : Nat) (hj : j < 6) : (rwsV l)[k * 6 + j]? = (rwV l[k])[j]? := by
  induction l generalizing k with
  | nil => simp at hk
  | cons s r ih =>
    have e : rwsV (s :: r) = rwV s ++ rwsV r := rfl
    rw [e]
    cases k with
    | zero => rw [List.getElem?_append_left (by simp [rwV]; omega)]; simp
    | succ k =>
      rw [List.getElem?_append_right (by simp [rwV]; omega)]
      have e2 : (k + 1) * 6 + j - (rwV s).length = k * 6 + j := by simp [rwV]; omega
      rw [e2, ih k (by simpa using hk)]; rfl

end Go.Proofs.YtcipkfhpcbddiaaGreat

/- Package metaproofkeep: faults, places, rows that are the same; sameRow, sameRows, begins. -/
namespace Go.Proofs.YtcipkfhpcbddiaaGreat
open Go.RowKit

theorem uF : Tryz.prog.underlying 41 = some (.struct (Tryz.prog.fieldsOf 41)) := by kernel_rfl
theorem uP : Tryz.prog.underlying 39 = some (.struct (Tryz.prog.fieldsOf 39)) := by kernel_rfl
theorem sF : Tryz.prog.stoodInHeld 41 = false := by kernel_rfl
theorem sP : Tryz.prog.stoodInHeld 39 = false := by kernel_rfl
theorem partF0 (a : Value) (b c d : Value) (w : World) : (part 3 #[a, b, c, d] 0).run Tryz.prog w = .ok a w := by kernel_rfl
theorem partF1 (a b c d : Value) (w : World) : (part 39 #[a, b, c, d] 1).run Tryz.prog w = .ok (.agg #[b, c, d]) w := by kernel_rfl
theorem partP0 (a b c : Value) (w : World) : (part 9 #[a, b, c] 0).run Tryz.prog w = .ok a w := by kernel_rfl
theorem partP1 (a b c : Value) (w : World) : (part 3 #[a, b, c] 1).run Tryz.prog w = .ok b w := by kernel_rfl
theorem partP2 (a b c : Value) (w : World) : (part 3 #[a, b, c] 2).run Tryz.prog w = .ok c w := by kernel_rfl
theorem eqP (d : Nat) (xs ys : Array Value) : Op.eqFields d xs ys (Tryz.prog.fieldsOf 39).toList = (do let a ← part 9 xs 0; let b ← part 9 ys 0; let r ← Op.equalIn d 9 a b; if (!r) = true then pure false else do
   let a ← part 3 xs 1; let b ← part 3 ys 1; let r ← Op.equalIn d 3 a b; if (!r) = true then pure false else do
   let a ← part 3 xs 2; let b ← part 3 ys 2; let r ← Op.equalIn d 3 a b; if (!r) = true then pure false else pure true) := by kernel_rfl
theorem placeEq (d : Nat) (s : ByteArray) (l c : Int) (w : World) : (Op.equalIn (d + 2) 39 (.agg #[.string s, .int .i64 l, .int .i64 c]) (.agg #[.string s, .int .i64 l, .int .i64 c])).run Tryz.prog w = .ok true w := by
  rw [run_equalIn_agg w (d + 1) 39 _ _ uP sP, eqP]
  simp [Sem.run_bind, partP0, partP1, partP2, run_equalIn_string w d 9 s s Tryz.underlying9, run_equalIn_int w d 3 .i64 .i64 l l Tryz.underlying3, run_equalIn_int w d 3 .i64 .i64 c c Tryz.underlying3]
theorem eqF (d : Nat) (xs ys : Array Value) : Op.eqFields d xs ys (Tryz.prog.fieldsOf 41).toList = (do let a ← part 3 xs 0; let b ← part 3 ys 0; let r ← Op.equalIn d 3 a b; if (!r) = true then pure false else do
   let a ← part 39 xs 1; let b ← part 39 ys 1; let r ← Op.equalIn d 39 a b; if (!r) = true then pure false else pure true) := by kernel_rfl
theorem faultEq (d : Nat) (r : Int) (s : ByteArray) (l c : Int) (w : World) : (Op.equalIn (d + 3) 41 (.agg #[.int .i64 r, .string s, .int .i64 l, .int .i64 c]) (.agg #[.int .i64 r, .string s, .int .i64 l, .int .i64 c])).run Tryz.prog w = .ok true w := by
  rw [run_equalIn_agg w (d + 2) 41 _ _ uF sF, eqF]
  simp [Sem.run_bind, partF0, partF1, placeEq d s l c, run_equalIn_int w (d + 1) 3 .i64 .i64 r r Tryz.underlying3]
theorem faultNeq (r : Int) (s : ByteArray) (l c : Int) (w : World) : (binOp .neq 41 (.agg #[.int .i64 r, .string s, .int .i64 l, .int .i64 c]) (.agg #[.int .i64 r, .string s, .int .i64 l, .int .i64 c])).run Tryz.prog w = .ok (.bool false) w := by
  rw [run_neq_struct, show (10000 : Nat) = 9997 + 3 from rfl, faultEq]; simp
theorem placeNeq (s : ByteArray) (l c : Int) (w : World) : (binOp .neq 39 (.agg #[.string s, .int .i64 l, .int .i64 c]) (.agg #[.string s, .int .i64 l, .int .i64 c])).run Tryz.prog w = .ok (.bool false) w := by
  rw [run_neq_struct, show (10000 : Nat) = 9998 + 2 from rfl, placeEq]; simp
theorem placeEql (s : ByteArray) (l c : Int) (w : World) : (binOp .eql 39 (.agg #[.string s, .int .i64 l, .int .i64 c]) (.agg #[.string s, .int .i64 l, .int .i64 c])).run Tryz.prog w = .ok (.bool true) w := by
  rw [run_eql_struct, show (10000 : Nat) = 9998 + 2 from rfl, placeEq]; simp

theorem uR : Tryz.prog.underlying 59 = some (.struct (Tryz.prog.fieldsOf 59)) := by kernel_rfl
theorem sR : Tryz.prog.stoodInHeld 59 = false := by kernel_rfl
theorem partR0 (a b c d e f : Value) (w : World) : (part 9 #[a, b, c, d, e, f] 0).run Tryz.prog w = .ok a w := by kernel_rfl
theorem partR1 (a b c d e f : Value) (w : World) : (part 3 #[a, b, c, d, e, f] 1).run Tryz.prog w = .ok b w := by kernel_rfl
theorem partR2 (a b c d e f : Value) (w : World) : (part 3 #[a, b, c, d, e, f] 2).run Tryz.prog w = .ok c w := by kernel_rfl
theorem partR3 (a b c d e f : Value) (w : World) : (part 39 #[a, b, c, d, e, f] 3).run Tryz.prog w = .ok (.agg #[d, e, f]) w := by kernel_rfl
theorem eqR (d : Nat) (xs ys : Array Value) : Op.eqFields d xs ys (Tryz.prog.fieldsOf 59).toList = (do let a ← part 9 xs 0; let b ← part 9 ys 0; let r ← Op.equalIn d 9 a b; if (!r) = true then pure false else do
   let a ← part 3 xs 1; let b ← part 3 ys 1; let r ← Op.equalIn d 3 a b; if (!r) = true then pure false else do
   let a ← part 3 xs 2; let b ← part 3 ys 2; let r ← Op.equalIn d 3 a b; if (!r) = true then pure false else do
   let a ← part 39 xs 3; let b ← part 39 ys 3; let r ← Op.equalIn d 39 a b; if (!r) = true then pure false else pure true) := by kernel_rfl
theorem rowEq (d : Nat) (s f : ByteArray) (v y l c : Int) (w : World) : (Op.equalIn (d + 3) 59 (.agg #[.string s, .int .i64 v, .int .i64 y, .string f, .int .i64 l, .int .i64 c]) (.agg #[.string s, .int .i64 v, .int .i64 y, .string f, .int .i64 l, .int .i64 c])).run Tryz.prog w = .ok true w := by
  rw [run_equalIn_agg w (d + 2) 59 _ _ uR sR, eqR]
  simp [Sem.run_bind, partR0, partR1, partR2, partR3, placeEq d f l c, run_equalIn_string w (d + 1) 9 s s Tryz.underlying9, run_equalIn_int w (d + 1) 3 .i64 .i64 v v Tryz.underlying3, run_equalIn_int w (d + 1) 3 .i64 .i64 y y Tryz.underlying3]
theorem rowEql (s f : ByteArray) (v y l c : Int) (w : World) : (binOp .eql 59 (.agg #[.string s, .int .i64 v, .int .i64 y, .string f, .int .i64 l, .int .i64 c]) (.agg #[.string s, .int .i64 v, .int .i64 y, .string f, .int .i64 l, .int .i64 c])).run Tryz.prog w = .ok (.bool true) w := by
  rw [run_eql_struct, show (10000 : Nat) = 9997 + 3 from rfl, rowEq]; simp
attribute [local go_sem] rowEql

/-- A line that can be written. -/
def LnOk (p : Pl) : Prop := -1000000000 ≤ p.line ∧ p.line ≤ 1000000000

set_option maxHeartbeats 800000 in
theorem sameRow_any (s f : ByteArray) (v y l c : Int) (w : World) (hl : -1000000000 ≤ l ∧ l ≤ 1000000000) :
    Calls Tryz.prog 37 #[.agg #[.string s, .int .i64 v, .int .i64 y, .string f, .int .i64 l, .int .i64 c], .agg #[.string s, .int .i64 v, .int .i64 y, .string f, .int .i64 l, .int .i64 c], .int .i64 0] w fun e w' => e = .returned (.bool true) ∧ Kept [] w w' := by
  have hw : IntKind.i64.wrap (l + 0) = l := by rw [IntKind.wrap_i64]; omega
  cases hf : (f.toList == [])
  · go_enter Tryz.func37, Tryz.ntmps37
    go_wp2
    go_ret
    exact ⟨rfl, ((Kept.refl _ _).alloc _).alloc _⟩
  · go_enter Tryz.func37, Tryz.ntmps37
    go_wp2
    go_ret
    exact ⟨rfl, ((Kept.refl _ _).alloc _).alloc _⟩

theorem rw_at {w : World} {g : Nat} {cur : Array Value} {t : TypeId} {L : List Rw} (h : w.heap[g]? = some (.cells cur t (0, 0))) (hx : ∀ (j : Nat) v, (rwsV L)[j]? = some v → cur[j]? = some v) (k : Nat) (hk : k < L.length) :
    w.cell? ⟨g, k * 6, none⟩ = some (.string L[k].label) ∧ w.cell? ⟨g, k * 6 + 1, none⟩ = some (.int .i64 L[k].verdict) ∧ w.cell? ⟨g, k * 6 + 2, none⟩ = some (.int .i64 L[k].why) ∧ w.cell? ⟨g, k * 6 + 3, none⟩ = some (.string L[k].at_.file) ∧ w.cell? ⟨g, k * 6 + 4, none⟩ = some (.int .i64 L[k].at_.line) ∧ w.cell? ⟨g, k * 6 + 5, none⟩ = some (.int .i64 L[k].at_.col) := by
  have c := fun j (hj : j < 6) v (hv : (rwV L[k])[j]? = some v) => (cell_of h (k * 6 + j)).trans (hx _ _ ((rwsV_at L k hk j hj).trans hv))
  exact ⟨c 0 (by omega) _ rfl, c 1 (by omega) _ rfl, c 2 (by omega) _ rfl, c 3 (by omega) _ rfl, c 4 (by omega) _ rfl, c 5 (by omega) _ rfl⟩

set_option maxHeartbeats 1000000 in
set_option maxRecDepth 100000 in
theorem sameRows_some (g1 g2 c1 c2 : Nat) (L : List Rw) (w : World) (cur1 cur2 : Array Value) (t1 t2 : TypeId) (h1 : w.heap[g1]? = some (.cells cur1 t1 (0, 0))) (h2 : w.heap[g2]? = some (.cells cur2 t2 (0, 0)))
    (x1 : ∀ (j : Nat) v, (rwsV L)[j]? = some v → cur1[j]? = some v) (x2 : ∀ (j : Nat) v, (rwsV L)[j]? = some v → cur2[j]? = some v) (hL : L.length ≤ 100000) (hl : ∀ r ∈ L, LnOk r.at_) :
    Calls Tryz.prog 20 #[.slice (some ⟨g1, 0, none⟩) L.length c1, .slice (some ⟨g2, 0, none⟩) L.length c2, .int .i64 0] w fun e w' => e = .returned (.bool true) ∧ Kept [] w w' := by
  have hg1 := lt_of_get h1
  have hg2 := lt_of_get h2
  go_enter Tryz.func20, Tryz.ntmps20
  go_wp2
  go_loopg [7, 8] L.length (fun g i _ wr => ∃ k : Nat, k ≤ L.length ∧ g = L.length - k ∧ i = .int .i64 k ∧ Kept [] w wr)
  case atStart => exact ⟨0, by omega, by omega, rfl, Kept.refl _ _⟩
  case round =>
    obtain ⟨k, hk, hg, rfl, hK⟩ := hrel
    by_cases hlt : k < L.length
    · obtain ⟨a0, a1, a2, a3, a4, a5⟩ := rw_at (hK.get h1 (by simp)) x1 k hlt
      obtain ⟨b0, b1, b2, b3, b4, b5⟩ := rw_at (hK.get h2 (by simp)) x2 k hlt
      have hr := hl L[k] (List.getElem_mem hlt)
      have hs := hK.size
      generalize L[k] = r at *
      obtain ⟨la, ve, wy, ⟨fi, li, co⟩⟩ := r
      simp only [LnOk] at a0 a1 a2 a3 a4 a5 b0 b1 b2 b3 b4 b5 hr
      go_upto_region 6 with fail
      go_region_with (go_at_call 37; refine (sameRow_any la fi ve wy li co _ hr).mono ?_; rintro e w2 ⟨rfl, hk2⟩)
      all_goals
        have hK2 := hK.trans ((Kept.refl [] wr).drew.trans hk2)
        go_wp2
        go_roundg (L.length - (k + 1))
        case measure => omega
        case rel => exact ⟨k + 1, by omega, rfl, by go_num, hK2⟩
    · go_wp2
      go_ret
      exact ⟨rfl, hK⟩

theorem sameRows_nil (a1 a2 : Option Addr) (c1 c2 : Nat) (w : World) :
    Calls Tryz.prog 20 #[.slice a1 0 c1, .slice a2 0 c2, .int .i64 0] w fun e w' => e = .returned (.bool true) ∧ Kept [] w w' := by
  go_enter Tryz.func20, Tryz.ntmps20
  go_wp2
  refine wp_loop_rounds 1 ?_
  rw [rounds_succ]
  go_wp2
  go_ret
  exact ⟨rfl, Kept.refl _ _⟩

/-- Rows that were told: nil, or an array of their own, without spare room. -/
def rowsSl : Option Nat → Nat → Value
  | none, _ => .slice none 0 0
  | some g, n => .slice (some ⟨g, 0, none⟩) n n
def RowsAt (w : World) : Option Nat → List Rw → Prop
  | none, L => L = []
  | some g, L => 0 < L.length ∧ w.heap[g]? = some (.cells (rwsV L).toArray 59 (0, 0))
theorem RowsAt.kept {w w' : World} {o : Option Nat} {L : List Rw} {S : List Nat} (h : RowsAt w o L) (k : Kept S w w') (hS : ∀ g, o = some g → g ∉ S) : RowsAt w' o L := by
  cases o with
  | none => exact h
  | some g => exact ⟨h.1, k.get h.2 (hS g rfl)⟩
theorem RowsAt.still {w w' : World} {o : Option Nat} {L : List Rw} (h : RowsAt w o L) (k : Kept [] w w') : RowsAt w' o L := h.kept k (by simp)
theorem RowsAt.lt {w : World} {o : Option Nat} {L : List Rw} (h : RowsAt w o L) (g : Nat) (e : o = some g) : g < w.heap.size := by
  subst e; exact lt_of_get h.2
/-- Rows that can be told. -/
structure RwsOk (L : List Rw) : Prop where
  len : L.length ≤ 100000
  line : ∀ r ∈ L, LnOk r.at_

theorem sameRows_any (o1 o2 : Option Nat) (L : List Rw) (w : World) (h1 : RowsAt w o1 L) (h2 : RowsAt w o2 L) (ok : RwsOk L) :
    Calls Tryz.prog 20 #[rowsSl o1 L.length, rowsSl o2 L.length, .int .i64 0] w fun e w' => e = .returned (.bool true) ∧ Kept [] w w' := by
  cases o1 with
  | none =>
    have hn : L = [] := h1
    subst hn
    cases o2 with
    | none => exact sameRows_nil _ _ _ _ _
    | some g => exact absurd h2.1 (by simp)
  | some g1 =>
    cases o2 with
    | none => have hn : L = [] := h2
              subst hn
              exact absurd h1.1 (by simp)
    | some g2 => exact sameRows_some g1 g2 _ _ L w _ _ _ _ h1.2 h2.2 (fun j v h => by simpa using h) (fun j v h => by simpa using h) ok.len ok.line

set_option maxHeartbeats 1000000 in
theorem begins_any (o1 o2 : Option Nat) (L M : List Rw) (w : World) (h1 : RowsAt w o1 L) (h2 : RowsAt w o2 (L ++ M)) (ok : RwsOk (L ++ M)) :
    Calls Tryz.prog 36 #[rowsSl o1 L.length, rowsSl o2 (L ++ M).length] w fun e w' => e = .returned (.bool true) ∧ Kept [] w w' := by
  have hlen := ok.len
  have hml : (L ++ M).length = L.length + M.length := List.length_append
  cases o1 with
  | none =>
    have hn : L = [] := h1
    subst hn
    cases o2 with
    | none =>
      go_enter Tryz.func36, Tryz.ntmps36
      unfold rowsSl
      go_wp2_with fail
      refine (sameRows_nil _ _ _ _ _).mono ?_
      rintro e w1 ⟨rfl, hk⟩
      go_wp2
      go_ret
      exact ⟨rfl, hk⟩
    | some g2 =>
      go_enter Tryz.func36, Tryz.ntmps36
      unfold rowsSl
      simp only [List.nil_append] at hlen ⊢
      generalize M.length = n at *
      go_wp2_with fail
      refine (sameRows_nil _ _ _ _ _).mono ?_
      rintro e w1 ⟨rfl, hk⟩
      go_wp2
      go_ret
      exact ⟨rfl, hk⟩
  | some g1 =>
    cases o2 with
    | none => have hn : L ++ M = [] := h2
              have : L.length = 0 := by rw [(List.append_eq_nil_iff.1 hn).1]; rfl
              have := h1.1
              omega
    | some g2 =>
      have SR := fun c1 c2 => sameRows_some g1 g2 c1 c2 L w _ _ _ _ h1.2 h2.2 (fun j v h => by simpa using h) (fun j v hj => by
        have hl := (List.getElem?_eq_some_iff.1 hj).1
        unfold rwsV at hj hl ⊢
        rw [List.flatMap_append]
        simp only [List.getElem?_toArray]
        rw [List.getElem?_append_left hl]; exact hj) (by omega) (fun r hr => ok.line r (List.mem_append_left _ hr))
      have HSR := (show Hid _ from SR)
      have hpos := h1.1
      clear SR ok
      rw [hml] at hlen ⊢
      generalize L.length = n at *
      generalize M.length = m at *
      go_enter Tryz.func36, Tryz.ntmps36
      unfold rowsSl
      go_wp2_with fail
      refine (HSR.out _ _).mono ?_
      rintro e w1 ⟨rfl, hk⟩
      go_wp2
      go_ret
      exact ⟨rfl, hk⟩

end Go.Proofs.YtcipkfhpcbddiaaGreat

/- The verifier: New, drop, Put. -/
namespace Go.Proofs.YtcipkfhpcbddiaaGreat
open Go.RowKit

/-- A verifier: its table, and what it has of a report. -/
def VerAt (w : World) (x : Nat) (fs : List (ByteArray × ByteArray)) (rep : Bool) (a b c : Value) : Prop := TabAt w x 86 fs [.bool rep, a, b, c]
def nilV : Value := .slice none 0 0
/-- Without a report. -/
def BareAt (w : World) (x : Nat) (fs : List (ByteArray × ByteArray)) : Prop := VerAt w x fs false nilV nilV nilV
def SomeAt (w : World) (x : Nat) (fs : List (ByteArray × ByteArray)) : Prop := ∃ rep a b c, VerAt w x fs rep a b c
theorem BareAt.anyR {w : World} {x : Nat} {fs : List (ByteArray × ByteArray)} (h : BareAt w x fs) : SomeAt w x fs := ⟨_, _, _, _, h⟩
theorem VerAt.anyR {w : World} {x : Nat} {fs : List (ByteArray × ByteArray)} {rep : Bool} {a b c : Value} (h : VerAt w x fs rep a b c) : SomeAt w x fs := ⟨_, _, _, _, h⟩
theorem BareAt.kept {w w' : World} {x : Nat} {fs : List (ByteArray × ByteArray)} {S : List Nat} (h : BareAt w x fs) (k : Kept S w w') (hx : x ∉ S) : BareAt w' x fs := TabAt.kept h k hx
theorem SomeAt.kept {w w' : World} {x : Nat} {fs : List (ByteArray × ByteArray)} {S : List Nat} (h : SomeAt w x fs) (k : Kept S w w') (hx : x ∉ S) : SomeAt w' x fs := by
  obtain ⟨r, a, b, c, h⟩ := h; exact ⟨r, a, b, c, TabAt.kept h k hx⟩
theorem SomeAt.lt {w : World} {x : Nat} {fs : List (ByteArray × ByteArray)} (h : SomeAt w x fs) : x < w.heap.size := by
  obtain ⟨r, a, b, c, h⟩ := h; exact TabAt.lt h
theorem VerAt.cells {w : World} {x : Nat} {fs : List (ByteArray × ByteArray)} {rep : Bool} {a b c : Value} (h : VerAt w x fs rep a b c) :
    w.cell? ⟨x, 9, none⟩ = some (.bool rep) ∧ w.cell? ⟨x, 10, none⟩ = some a ∧ w.cell? ⟨x, 11, none⟩ = some b ∧ w.cell? ⟨x, 12, none⟩ = some c := by
  refine ⟨?_, ?_, ?_, ?_⟩ <;> (rw [cell_of h.1]; rfl)
def turnV (w : World) (x : Nat) (rep : Bool) (a b c : Value) : World := (((w.setCell ⟨x, 9, none⟩ (.bool rep)).setCell ⟨x, 10, none⟩ a).setCell ⟨x, 11, none⟩ b).setCell ⟨x, 12, none⟩ c
theorem VerAt.turn {w : World} {x : Nat} {fs : List (ByteArray × ByteArray)} {rep : Bool} {a b c : Value} (h : VerAt w x fs rep a b c) (rep' : Bool) (a' b' c' : Value) : VerAt (turnV w x rep' a' b' c') x fs rep' a' b' c' := by
  refine ⟨?_, h.2⟩
  unfold turnV
  rw [block_setCell (block_setCell (block_setCell (block_setCell h.1 9 (.bool rep')) 10 a') 11 b') 12 c']
  rfl
theorem turnV_kept {S : List Nat} {w w' : World} (h : Kept S w w') {x : Nat} (hx : x ∈ S ∨ w.heap.size ≤ x) (rep : Bool) (a b c : Value) : Kept S w (turnV w' x rep a b c) :=
  (((h.setCell hx _).setCell hx _).setCell hx _).setCell hx _

theorem build_ver (w : World) : (Instr.build 86 #[]).run Tryz.prog w = .ok (.agg #[.string ⟨#[]⟩, .string ⟨#[]⟩, .string ⟨#[]⟩, .string ⟨#[]⟩, .string ⟨#[]⟩, .string ⟨#[]⟩, .string ⟨#[]⟩, .string ⟨#[]⟩, .int .i64 0, .bool false, .slice none 0 0, .slice none 0 0, .slice none 0 0]) w :=
  run_build w 86 _ _ (by kernel_rfl)
theorem build_norep (w : World) : (Instr.build 84 #[]).run Tryz.prog w = .ok (.agg #[.slice none 0 0, .slice none 0 0, .slice none 0 0]) w :=
  run_build w 84 _ _ (by kernel_rfl)
attribute [local go_sem] build_ver build_norep

theorem new_any (w : World) : Calls Tryz.prog 13 #[] w fun e w' => e = .returned (.pointer (some ⟨w.heap.size, 0, none⟩)) ∧ BareAt w' w.heap.size [] ∧ Kept [] w w' := by
  go_enter Tryz.func13, Tryz.ntmps13
  go_wp2
  go_ret
  exact ⟨rfl, ⟨heap_alloc_new _ _, by simp⟩, (Kept.refl _ _).alloc _⟩

set_option maxHeartbeats 400000 in
theorem drop_any (x : Nat) (fs : List (ByteArray × ByteArray)) (w : World) (h : SomeAt w x fs) :
    Calls Tryz.prog 33 #[.pointer (some ⟨x, 0, none⟩)] w fun e w' => e = .returned (.tuple #[]) ∧ BareAt w' x fs ∧ Kept [x] w w' := by
  obtain ⟨rep, a, b, c, h⟩ := h
  obtain ⟨c9, c10, c11, c12⟩ := h.cells
  have hf := TabAt.free h
  have HT := (show Hid _ from h.turn false (.slice none 0 0) (.slice none 0 0) (.slice none 0 0))
  unfold turnV at HT
  have hxw := TabAt.lt h
  go_enter Tryz.func33, Tryz.ntmps33
  go_wp2
  go_end0
  exact ⟨rfl, HT.out, turnV_kept (Kept.refl _ _) (Or.inl (by simp)) _ _ _ _⟩

theorem vput_any (x : Nat) (n d : ByteArray) (fs : List (ByteArray × ByteArray)) (w : World) (h : SomeAt w x fs) (hn : n.size ≤ 1073741824) (hd : d.size ≤ 4294967296) :
    Calls Tryz.prog 14 #[.pointer (some ⟨x, 0, none⟩), .string n, .string d] w fun e w' => e = .returned (.int .i64 (putF fs n d).1) ∧ SomeAt w' x (putF fs n d).2 ∧ ((putF fs n d).1 = 0 → BareAt w' x (putF fs n d).2) ∧ Kept [x] w w' := by
  obtain ⟨rep, a, b, c, h⟩ := h
  have PF := put_any x 86 n d fs [.bool rep, a, b, c] w h hn hd
  have HPF := (show Hid _ from PF)
  clear PF
  generalize putF fs n d = pf at *
  obtain ⟨e0, fs'⟩ := pf
  simp only at HPF ⊢
  cases he : (e0 == 0)
  · go_enter Tryz.func14, Tryz.ntmps14
    go_wp2_with fail
    refine Calls.mono HPF.out ?_
    rintro e w2 ⟨rfl, h2, hk2⟩
    go_wp2
    go_ret
    exact ⟨rfl, ⟨rep, a, b, c, h2⟩, fun e => by subst e; simp at he, hk2⟩
  · go_enter Tryz.func14, Tryz.ntmps14
    go_wp2_with fail
    refine Calls.mono HPF.out ?_
    rintro e w2 ⟨rfl, h2, hk2⟩
    go_wp2_with fail
    refine (drop_any x fs' w2 ⟨rep, a, b, c, h2⟩).mono ?_
    rintro e w3 ⟨rfl, h3, hk3⟩
    go_wp2
    go_ret
    exact ⟨rfl, h3.anyR, fun _ => h3, hk2.trans hk3⟩

end Go.Proofs.YtcipkfhpcbddiaaGreat

/- Package metaproofkeep: holds, lines, pick, small, rows that are nil. -/
namespace Go.Proofs.YtcipkfhpcbddiaaGreat
open Go.RowKit

set_option maxHeartbeats 400000 in
theorem kholds_any (s : ByteArray) (w : World) (hs : s.size ≤ 4294967296) :
    Calls Tryz.prog 17 #[.string s, .string ⟨#[36, 91]⟩] w fun e w' => e = .returned (.bool (holdsF s)) ∧ w' = w := by
  go_enter Tryz.func17, Tryz.ntmps17
  go_wp2
  go_loopg [5] s.size (fun g i wr => ∃ k : Nat, k ≤ s.size ∧ g = s.size - k ∧ i = .int .i64 k ∧ Hid (∀ i, i < k → i + 2 ≤ s.size → incAt s i = false) ∧ wr = w)
  case atStart => exact ⟨0, by omega, by omega, rfl, fun i h => by omega, rfl⟩
  case round =>
    obtain ⟨k, hk, hg, rfl, hall, rfl⟩ := hrel
    by_cases hlt : k + 2 ≤ s.size
    · cases hb : ((s.extract k (k + 2)).toList == [36, 91])
      · go_wp2
        go_roundg (s.size - (k + 1))
        case measure => omega
        case rel =>
          refine ⟨k + 1, by omega, rfl, by go_num, ?_, rfl⟩
          intro i hi h2
          by_cases e : i = k
          · subst e; exact hb
          · exact hall.out i (by omega) h2
      · have HY : Hid (holdsF s = true) := any_yes k (by omega) (by simp [hlt, incAt, hb])
        go_wp2
        go_ret
        exact ⟨ret_bool HY.out.symm, rfl⟩
    · have HY : Hid (holdsF s = false) := any_no (fun i hi => by
        by_cases h2 : i + 2 ≤ s.size
        · simp [hall.out i (by omega) h2]
        · simp [h2])
      go_wp2
      go_ret
      exact ⟨ret_bool HY.out.symm, rfl⟩

set_option maxHeartbeats 400000 in
theorem lines_any (s : ByteArray) (w : World) (hs : s.size ≤ 1073741824) :
    Calls Tryz.prog 22 #[.string s] w fun e w' => e = .returned (.int .i64 (lineAt s s.size - 1)) ∧ w' = w := by
  go_enter Tryz.func22, Tryz.ntmps22
  go_wp2
  go_loopg [3, 4] s.size (fun g m i wr => ∃ (k : Nat) (l : Int), k ≤ s.size ∧ g = s.size - k ∧ i = .int .i64 k ∧ m = .int .i64 l ∧ Hid (l = lineAt s k - 1) ∧ 0 ≤ l ∧ l ≤ k ∧ wr = w)
  case atStart => exact ⟨0, 0, by omega, by omega, rfl, rfl, rfl, by omega, by omega, rfl⟩
  case round =>
    obtain ⟨k, l, hk, hg, rfl, rfl, hl, hl0, hlk, rfl⟩ := hrel
    by_cases hlt : k < s.size
    · cases hb : ((s[k].toNat : Int) == 10)
      · have HL : Hid (l = lineAt s (k + 1) - 1) := by show l = _; rw [lineAt, byteAt_of s k hlt, hb, hl.out]; simp
        clear hl
        go_wp2
        go_roundg (s.size - (k + 1))
        case measure => omega
        case rel => exact ⟨k + 1, l, by omega, rfl, by go_num, rfl, HL, hl0, by omega, rfl⟩
      · have HL : Hid (l + 1 = lineAt s (k + 1) - 1) := by show l + 1 = _; rw [lineAt, byteAt_of s k hlt, hb, hl.out]; simp
        clear hl
        go_wp2
        go_roundg (s.size - (k + 1))
        case measure => omega
        case rel => exact ⟨k + 1, l + 1, by omega, rfl, by go_num, rfl, HL, by omega, by omega, rfl⟩
    · have HL : Hid (l = lineAt s s.size - 1) := by show l = _; rw [hl.out, show k = s.size by omega]
      clear hl
      go_wp2
      go_ret
      exact ⟨ret_int HL.out, rfl⟩

/-- Which of n (the raw number c: any). -/
theorem pick_any (c : Int) (n : Nat) (w : World) (hc : -9223372036854775808 ≤ c ∧ c ≤ 9223372036854775807) (hn : 1 ≤ n ∧ n ≤ 1073741824) :
    Calls Tryz.prog 25 #[.int .i64 c, .int .i64 n] w fun e w' => (∃ p : Nat, e = .returned (.int .i64 p) ∧ p < n) ∧ w' = w := by
  have hn1 : (1 : Int) ≤ (n : Int) := by omega
  have hn2 : (n : Int) ≤ 1073741824 := by omega
  have hnz : ((n : Int) == 0) = false := beq_eq_false_iff_ne.2 (by omega)
  by_cases h0 : c < 0
  · have h1 : 0 ≤ (-(c + 1)).tmod n ∧ (-(c + 1)).tmod n < n := ⟨Int.tmod_nonneg _ (by omega), Int.tmod_lt_of_pos _ (by omega)⟩
    have H1 := (show Hid _ from h1)
    clear h1
    go_enter Tryz.func25, Tryz.ntmps25
    go_wp2
    all_goals go_ret
    all_goals
      have h1 := H1.out
      refine ⟨⟨((-(c + 1)).tmod n).toNat, ret_int ?_, by omega⟩, rfl⟩
      first | (simp only [Int.neg_tmod] at *; omega) | (rw [Int.toNat_of_nonneg h1.1])
  · have h1 : 0 ≤ c.tmod n ∧ c.tmod n < n := ⟨Int.tmod_nonneg _ (by omega), Int.tmod_lt_of_pos _ (by omega)⟩
    have h2 : c.tmod n = c % n := Int.tmod_eq_emod_of_nonneg (by omega)
    have H1 := (show Hid _ from h1)
    have H2 := (show Hid _ from h2)
    clear h1 h2
    go_enter Tryz.func25, Tryz.ntmps25
    go_wp2
    all_goals go_ret
    all_goals
      have h1 := H1.out
      have h2 := H2.out
      refine ⟨⟨(c.tmod n).toNat, ret_int ?_, by omega⟩, rfl⟩
      first | (rw [Int.toNat_of_nonneg h1.1]; done) | (rw [Int.toNat_of_nonneg h1.1, h2])

/-- The caller's own chunks: at address a, in a world. -/
def ChunksAt (w : World) (b off : Nat) (l : List ByteArray) : Prop := b < w.heap.size ∧ ∀ i (h : i < l.length), w.cell? ⟨b, off + i, none⟩ = some (.string l[i])
theorem ChunksAt.kept {w w' : World} {b off : Nat} {l : List ByteArray} {S : List Nat} (h : ChunksAt w b off l) (hk : Kept S w w') (hb : b ∉ S) : ChunksAt w' b off l :=
  ⟨Nat.lt_of_lt_of_le h.1 hk.size, fun i hi => (World.cell?_of_block (hk.block b h.1 hb)).trans (h.2 i hi)⟩

def sumTo (l : List ByteArray) : Nat → Int
  | 0 => l.length
  | k + 1 => sumTo l k + (l.getD k ⟨#[]⟩).size
theorem sumTo_ge (l : List ByteArray) (k : Nat) : (l.length : Int) ≤ sumTo l k ∧ ∀ i, i < k → ((l.getD i ⟨#[]⟩).size : Int) ≤ sumTo l k := by
  induction k with
  | zero => simp [sumTo]
  | succ k ih =>
    rw [sumTo]
    refine ⟨by omega, fun i hi => ?_⟩
    by_cases e : i = k
    · subst e; omega
    · have := ih.2 i (by omega); omega

set_option maxHeartbeats 800000 in
theorem small_any (b off cap : Nat) (l : List ByteArray) (w : World) (hl : l.length ≤ 140737488351232) (hls : ∀ x, x ∈ l → x.size ≤ 140737488351232) (hc : ChunksAt w b off l) :
    Calls Tryz.prog 6 #[.slice (some ⟨b, off, none⟩) l.length cap] w fun e w' => (∃ r, e = .returned (.bool r) ∧ (r = true → l.length ≤ 1073741824 ∧ ∀ i, i < l.length → (l.getD i ⟨#[]⟩).size ≤ 1073741824)) ∧ w' = w := by
  by_cases h0 : 1073741824 < l.length
  · go_enter Tryz.func6, Tryz.ntmps6
    go_wp2
    go_ret
    exact ⟨⟨false, rfl, by simp⟩, rfl⟩
  · go_enter Tryz.func6, Tryz.ntmps6
    go_wp2
    go_loopg [3, 4] l.length (fun g m i wr => ∃ (k : Nat) (z : Int), k ≤ l.length ∧ g = l.length - k ∧ i = .int .i64 k ∧ m = .int .i64 z ∧ Hid (z = sumTo l k) ∧ 0 ≤ z ∧ z ≤ 1073741824 ∧ wr = w)
    case atStart => exact ⟨0, l.length, by omega, by omega, rfl, rfl, rfl, by omega, by omega, rfl⟩
    case round =>
      obtain ⟨k, z, hk, hg, rfl, rfl, hz, hz0, hz1, rfl⟩ := hrel
      by_cases hlt : k < l.length
      · have c1 := hc.2 k hlt
        have e0 : l.getD k ⟨#[]⟩ = l[k] := by rw [List.getD_eq_getElem?_getD, List.getElem?_eq_getElem hlt]; rfl
        have hx := hls l[k] (List.getElem_mem hlt)
        have HZ : Hid (sumTo l (k + 1) = z + (l[k]).size) := by show sumTo l (k + 1) = _; rw [sumTo, e0, hz.out]
        clear hz e0
        by_cases hb : (1073741824 : Int) < z + (l[k]).size
        · go_wp2
          go_ret
          exact ⟨⟨false, rfl, by simp⟩, rfl⟩
        · go_wp2
          go_roundg (l.length - (k + 1))
          case measure => omega
          case rel => exact ⟨k + 1, z + (l[k]).size, by omega, rfl, by go_num, rfl, HZ.out.symm, by omega, by omega, rfl⟩
      · have HZ : Hid (z = sumTo l l.length) := by show z = _; rw [hz.out, show k = l.length by omega]
        clear hz
        go_wp2
        go_ret
        refine ⟨⟨true, rfl, fun _ => ⟨by omega, fun i hi => ?_⟩⟩, rfl⟩
        have := (sumTo_ge l l.length).2 i hi
        rw [← HZ.out] at this
        omega

end Go.Proofs.YtcipkfhpcbddiaaGreat

/- Package reader: faultOf, readWord of a word that is no inclusion. -/
namespace Go.Proofs.YtcipkfhpcbddiaaGreat
open Go.RowKit

theorem build_fault (w : World) (r l c : Int) (n : ByteArray) : (Instr.build 41 #[(0, .int .i64 r), (1, .agg #[.string n, .int .i64 l, .int .i64 c])]).run Tryz.prog w = .ok (.agg #[.int .i64 r, .string n, .int .i64 l, .int .i64 c]) w :=
  run_build w 41 _ _ (by kernel_rfl)
theorem build_nofault (w : World) : (Instr.build 41 #[]).run Tryz.prog w = .ok (.agg #[.int .i64 0, .string ⟨#[]⟩, .int .i64 0, .int .i64 0]) w :=
  run_build w 41 _ _ (by kernel_rfl)
attribute [local go_sem] build_fault build_nofault

set_option maxHeartbeats 400000 in
theorem faultOf_any (t n : ByteArray) (r l c : Int) (f : Bool) (w : World) :
    Calls Tryz.prog 64 #[.agg #[.string t, .int .i64 r, .bool f, .string n, .int .i64 l, .int .i64 c]] w fun e w' => e = .returned (.agg #[.int .i64 (if f = true then 7 else r), .string n, .int .i64 l, .int .i64 c]) ∧ Kept [] w w' := by
  cases f
  · go_enter Tryz.func64, Tryz.ntmps64
    go_wp2
    exact bodyPost_ret (v := .agg #[.int .i64 r, .string n, .int .i64 l, .int .i64 c]) (by simp [results, Tryz.results64, go_sem]) rfl ⟨rfl, ((Kept.refl _ _).alloc _).alloc _⟩
  · go_enter Tryz.func64, Tryz.ntmps64
    go_wp2
    exact bodyPost_ret (v := .agg #[.int .i64 7, .string n, .int .i64 l, .int .i64 c]) (by simp [results, Tryz.results64, go_sem]) rfl ⟨rfl, ((Kept.refl _ _).alloc _).alloc _⟩

/-- The cells ahead of the database in a reader. -/
def preOf (v : Nat) (bg : List Bool) : List Value := .pointer (some ⟨v, 0, none⟩) :: bg.map Value.bool
theorem preOf_len (v : Nat) (bg : List Bool) (h : bg.length = 4) : (preOf v bg).length = 5 := by simp [preOf, h]

theorem DbIs.pre {w : World} {b t : Nat} {pre post : List Value} {d : Db} {H : Nat → Hd} (h : DbIs w b t pre post d H) (i : Nat) (hi : i < pre.length) (u : Value) :
    DbIs (w.setCell ⟨b, i, none⟩ u) b t (pre.set i u) post d H ∧ Turned b w H (w.setCell ⟨b, i, none⟩ u) H := by
  refine ⟨⟨?_, ?_, h.apart, h.off⟩, (KeptP.refl _ _).setCell (Or.inl (Or.inl rfl)) _, fun _ hk => Or.inl hk⟩
  · rw [block_setCell h.blk, List.setIfInBounds_toArray, List.set_append_left _ _ hi]
  · intro j
    refine (h.own j).moved (fun k hk => Below.heap_setCell _ _ _ _ ?_)
    rintro rfl
    exact h.off j hk
theorem DbIs.preCell {w : World} {b t : Nat} {pre post : List Value} {d : Db} {H : Nat → Hd} (h : DbIs w b t pre post d H) (i : Nat) (hi : i < pre.length) : w.cell? ⟨b, i, none⟩ = pre[i]? := by
  rw [cell_of h.blk]; simp [List.getElem?_append_left hi]

/-- What reading may turn: the database, and the scanner. -/
def Moved (b sp : Nat) (w : World) (H : Nat → Hd) (w' : World) (H' : Nat → Hd) : Prop :=
  KeptP (fun k => k = b ∨ k = sp ∨ InH H k) w w' ∧ ∀ k, InH H' k → InH H k ∨ w.heap.size ≤ k
theorem Turned.moved {b : Nat} {w w' : World} {H H' : Nat → Hd} (sp : Nat) (t : Turned b w H w' H') : Moved b sp w H w' H' :=
  ⟨⟨t.1.os, t.1.tape, t.1.output, t.1.size, fun k hk hn => t.1.block k hk (fun e => hn (e.elim Or.inl (fun e => Or.inr (Or.inr e))))⟩, t.2⟩
theorem Moved.trans {b sp : Nat} {w0 w1 w2 : World} {H0 H1 H2 : Nat → Hd} (a : Moved b sp w0 H0 w1 H1) (c : Moved b sp w1 H1 w2 H2) : Moved b sp w0 H0 w2 H2 := by
  refine ⟨⟨c.1.os.trans a.1.os, c.1.tape.trans a.1.tape, c.1.output.trans a.1.output, Nat.le_trans a.1.size c.1.size, ?_⟩, ?_⟩
  · intro k hk hn
    rw [← a.1.block k hk hn]
    refine c.1.block k (Nat.lt_of_lt_of_le hk a.1.size) ?_
    rintro (e | e | hm)
    · exact hn (Or.inl e)
    · exact hn (Or.inr (Or.inl e))
    · rcases a.2 k hm with h | h
      · exact hn (Or.inr (Or.inr h))
      · omega
  · intro k hk
    rcases c.2 k hk with h | h
    · exact a.2 k h
    · exact Or.inr (Nat.le_trans a.1.size h)
theorem Moved.refl (b sp : Nat) (w : World) (H : Nat → Hd) : Moved b sp w H w H := ⟨KeptP.refl _ _, fun _ hk => Or.inl hk⟩
theorem Moved.still {b sp : Nat} {w0 w1 w2 : World} {H0 H1 : Nat → Hd} (a : Moved b sp w0 H0 w1 H1) (c : Kept [] w1 w2) : Moved b sp w0 H0 w2 H1 :=
  a.trans ⟨c.toP (by simp), fun _ hk => Or.inl hk⟩
theorem Moved.first {b sp : Nat} {w0 w1 w2 : World} {H0 H1 : Nat → Hd} (c : Kept [] w0 w1) (a : Moved b sp w1 H0 w2 H1) : Moved b sp w0 H0 w2 H1 :=
  Moved.trans ⟨c.toP (by simp), fun _ hk => Or.inl hk⟩ a
theorem Moved.scan {b sp : Nat} {w0 w1 w2 : World} {H0 H1 : Nat → Hd} (a : Moved b sp w0 H0 w1 H1) (c : Kept [sp] w1 w2) : Moved b sp w0 H0 w2 H1 :=
  a.trans ⟨c.toP (by intro k hk _; simp at hk; exact Or.inr (Or.inl hk)), fun _ hk => Or.inl hk⟩
/-- Writes into blocks that are new do not count. -/
theorem Moved.beyond {b sp : Nat} {w wr w' : World} {H H1 : Nat → Hd} {S : List Nat} (T : Moved b sp w H wr H1) (k : Kept S wr w') (hS : ∀ x, x ∈ S → w.heap.size ≤ x) : Moved b sp w H w' H1 :=
  ⟨⟨k.os.trans T.1.os, k.tape.trans T.1.tape, k.output.trans T.1.output, Nat.le_trans T.1.size k.size, fun i hi hn => by
    rw [← T.1.block i hi hn]
    exact k.block i (Nat.lt_of_lt_of_le hi T.1.size) (fun hm => by have := hS i hm; omega)⟩, T.2⟩
theorem Moved.fresh {b sp : Nat} {w w2 : World} {H H2 : Nat → Hd} (T : Moved b sp w H w2 H2) (F : Nat) (h1 : F < w.heap.size) (h2 : ¬ InH H F) : ¬ InH H2 F := by
  intro hm
  rcases T.2 F hm with h | h
  · exact h2 h
  · omega
theorem Turned.fresh {b : Nat} {w w2 : World} {H H2 : Nat → Hd} (T : Turned b w H w2 H2) (F : Nat) (h1 : F < w.heap.size) (h2 : ¬ InH H F) : ¬ InH H2 F := by
  intro hm
  rcases T.2 F hm with h | h
  · exact h2 h
  · omega

theorem four_in {w : World} {r : Nat} (a0 a1 a2 a3 : Value) : Kept [r] w ((((w.setCell ⟨r, 0, none⟩ a0).setCell ⟨r, 1, none⟩ a1).setCell ⟨r, 2, none⟩ a2).setCell ⟨r, 3, none⟩ a3) :=
  ((((Kept.refl _ _).setCell (Or.inl (by simp)) _).setCell (Or.inl (by simp)) _).setCell (Or.inl (by simp)) _).setCell (Or.inl (by simp)) _
theorem six_in {w : World} {r : Nat} (a0 a1 a2 a3 a4 a5 : Value) : Kept [r] w ((((((w.setCell ⟨r, 0, none⟩ a0).setCell ⟨r, 1, none⟩ a1).setCell ⟨r, 2, none⟩ a2).setCell ⟨r, 3, none⟩ a3).setCell ⟨r, 4, none⟩ a4).setCell ⟨r, 5, none⟩ a5) :=
  ((((((Kept.refl _ _).setCell (Or.inl (by simp)) _).setCell (Or.inl (by simp)) _).setCell (Or.inl (by simp)) _).setCell (Or.inl (by simp)) _).setCell (Or.inl (by simp)) _).setCell (Or.inl (by simp)) _
def zeroFault : Array Value := #[.int .i64 0, .string ⟨#[]⟩, .int .i64 0, .int .i64 0]
theorem zero_cells {w : World} {r : Nat} (h : w.heap[r]? = some (.cells zeroFault 41 (0, 0))) :
    w.cell? ⟨r, 0, none⟩ = some (.int .i64 0) ∧ w.cell? ⟨r, 1, none⟩ = some (.string ⟨#[]⟩) ∧ w.cell? ⟨r, 2, none⟩ = some (.int .i64 0) ∧ w.cell? ⟨r, 3, none⟩ = some (.int .i64 0) := by
  refine ⟨?_, ?_, ?_, ?_⟩ <;> (rw [cell_of h]; rfl)

/-- The end of a call that answers a fault: its variable F has been written. -/
theorem flt_after {w w2 : World} {b t F : Nat} {pre post : List Value} {d : Db} {H H2 : Nat → Hd} (D : DbIs w2 b t pre post d H2) (T : Turned b w H w2 H2) (h1 : w.heap.size ≤ F) (h2 : b ≠ F) (h3 : ¬ InH H2 F) (a0 a1 a2 a3 : Value) :
    DbIs ((((w2.setCell ⟨F, 0, none⟩ a0).setCell ⟨F, 1, none⟩ a1).setCell ⟨F, 2, none⟩ a2).setCell ⟨F, 3, none⟩ a3) b t pre post d H2 ∧
    Turned b w H ((((w2.setCell ⟨F, 0, none⟩ a0).setCell ⟨F, 1, none⟩ a1).setCell ⟨F, 2, none⟩ a2).setCell ⟨F, 3, none⟩ a3) H2 := by
  refine ⟨D.kept (four_in _ _ _ _) (by simpa using h2) (fun x hx => by simp; rintro rfl; exact h3 hx), ?_, T.2⟩
  exact (((T.1.setCell (Or.inr h1) _).setCell (Or.inr h1) _).setCell (Or.inr h1) _).setCell (Or.inr h1) _

set_option maxHeartbeats 1600000 in
set_option maxRecDepth 100000 in
theorem readWordTake_any (b t : Nat) (v : Nat) (bg : List Bool) (hbg : bg.length = 4) (d : Db) (H : Nat → Hd) (sp : Value) (x n : ByteArray) (l c : Int) (w : World) (h : DbIs w b t (preOf v bg) [] d H) (hs : Small d 10000000) (hx : x.size ≤ 1073741824) (hi : Inner d 100000000)
    (hn : (x.toList == [36, 91]) = false) :
    Calls Tryz.prog 62 #[.pointer (some ⟨b, 0, none⟩), sp, .agg #[.string x, .int .i64 0, .bool false, .string n, .int .i64 l, .int .i64 c]] w fun e w' =>
      e = .returned (fltV (if ((takeF d x ⟨n, l, c⟩).1 == 0) = true then noFlt else ((takeF d x ⟨n, l, c⟩).1, ⟨n, l, c⟩))) ∧
      ∃ H', DbIs w' b t (preOf v bg) [] (takeF d x ⟨n, l, c⟩).2 H' ∧ Turned b w H w' H' := by
  have hbw := h.lt
  have TK := fun (w' : World) (h' : DbIs w' b t (preOf v bg) [] d H) => take_any b t 5 (preOf v bg) [] d H x n l c w' h' (preOf_len v bg hbg) hs hx hi
  unfold TakeSays at TK
  have HTK := (show Hid _ from TK)
  clear TK
  generalize takeF d x ⟨n, l, c⟩ = td at *
  obtain ⟨r, d'⟩ := td
  simp only at HTK
  obtain ⟨W, hW⟩ : ∃ W, W = ((w.alloc (.cells #[.string x, .int .i64 0, .bool false, .string n, .int .i64 l, .int .i64 c] 133)).alloc (.cells #[.int .i64 0, .string ⟨#[]⟩, .int .i64 0, .int .i64 0] 41)) := ⟨_, rfl⟩
  have hK : Kept [] w W := by rw [hW]; exact ((Kept.refl [] w).alloc _).alloc _
  have hD : DbIs W b t (preOf v bg) [] d H := h.still hK
  have hI : W.heap[w.heap.size]? = some (.cells #[.string x, .int .i64 0, .bool false, .string n, .int .i64 l, .int .i64 c] 133 (0, 0)) := by
    rw [hW]; exact ((Kept.refl [] _).alloc _).get (heap_alloc_new _ _) (by simp)
  have hF : W.heap[w.heap.size + 1]? = some (.cells zeroFault 41 (0, 0)) := by
    rw [hW]
    have := heap_alloc_new (w.alloc (.cells #[.string x, .int .i64 0, .bool false, .string n, .int .i64 l, .int .i64 c] 133)) (.cells #[.int .i64 0, .string ⟨#[]⟩, .int .i64 0, .int .i64 0] 41)
    simpa [zeroFault] using this
  have HNO : Hid (∀ k, w.heap.size ≤ k → ¬ (k = b ∨ InH H k)) := by
    rintro k hk (e | hm)
    · omega
    · have := h.inlt hm; omega
  have HW := (show Hid _ from hW.symm)
  clear hW h
  have i0 : W.cell? ⟨w.heap.size, 0, none⟩ = some (.string x) := by rw [cell_of hI]; rfl
  have i3 : W.cell? ⟨w.heap.size, 3, none⟩ = some (.string n) := by rw [cell_of hI]; rfl
  have i4 : W.cell? ⟨w.heap.size, 4, none⟩ = some (.int .i64 l) := by rw [cell_of hI]; rfl
  have i5 : W.cell? ⟨w.heap.size, 5, none⟩ = some (.int .i64 c) := by rw [cell_of hI]; rfl
  have HAF := (show Hid _ from fun (w2 : World) (H2 : Nat → Hd) (D2 : DbIs w2 b t (preOf v bg) [] d' H2) (T2 : Turned b W.drew H w2 H2) (a0 a1 a2 a3 : Value) =>
    flt_after D2 ((T2.first (Kept.refl [] W).drew).first hK) (F := w.heap.size + 1) (by omega) (by omega) (T2.fresh (w.heap.size + 1) (by exact lt_of_get hF) (fun hm => HNO.out (w.heap.size + 1) (by omega) (Or.inr hm))) a0 a1 a2 a3)
  have HCE := (show Hid _ from fun (w2 : World) (H2 : Nat → Hd) (T2 : Turned b W.drew H w2 H2) => (show _ ∧ _ from ⟨T2.1.get (by exact hI) (HNO.out _ (Nat.le_refl _)), T2.1.get (by exact hF) (HNO.out _ (by omega))⟩))
  have CE : ∀ (w2 : World) (H2 : Nat → Hd) (_ : Turned b W.drew H w2 H2), w2.cell? ⟨w.heap.size, 0, none⟩ = some (.string x) ∧ w2.cell? ⟨w.heap.size, 3, none⟩ = some (.string n) ∧ w2.cell? ⟨w.heap.size, 4, none⟩ = some (.int .i64 l) ∧ w2.cell? ⟨w.heap.size, 5, none⟩ = some (.int .i64 c) := by
    intro w2 H2 T2
    have hI2 := (HCE.out w2 H2 T2).1
    refine ⟨?_, ?_, ?_, ?_⟩ <;> (rw [cell_of hI2]; rfl)
  have HCC := (show Hid _ from CE)
  clear CE
  go_enter Tryz.func62, Tryz.ntmps62
  go_upto_region 1 with fail
  rw [HW.out]
  go_upto_region 3 with fail
  cases hr : (r == 0)
  · have hr' : (r != 0) = true := by simp [bne, hr]
    go_region_held3 (fun w' => w'.cell? ⟨w.heap.size, 0, none⟩ = some (.string x) ∧ w'.cell? ⟨w.heap.size, 3, none⟩ = some (.string n) ∧ w'.cell? ⟨w.heap.size, 4, none⟩ = some (.int .i64 l) ∧ w'.cell? ⟨w.heap.size, 5, none⟩ = some (.int .i64 c)) (go_keep) (first | (go_at_call 77; refine (HTK.out _ (by exact hD.still (Kept.refl [] _).drew)).mono ?_; rintro e w2 ⟨rfl, H2, D2, T2⟩; obtain ⟨r0, r3, r4, r5⟩ := HCC.out w2 H2 T2))
    all_goals
      have hF2 := (HCE.out w2 H2 T2).2
      have HA' := (show Hid _ from HAF.out w2 H2 D2 T2)
      obtain ⟨j0, j1, j2, j3⟩ := zero_cells hF2
      have y := free_of hF2
      go_wp2
      exact bodyPost_ret (v := .agg #[.int .i64 r, .string n, .int .i64 l, .int .i64 c]) (by simp [results, Tryz.results62, go_sem, j0, j1, j2, j3]) rfl
        ⟨rfl, H2, (HA'.out _ _ _ _).1, (HA'.out _ _ _ _).2⟩
  · have hr' : (r != 0) = false := by simp [bne, hr]
    go_region_held3 (fun w' => w'.cell? ⟨w.heap.size, 0, none⟩ = some (.string x) ∧ w'.cell? ⟨w.heap.size, 3, none⟩ = some (.string n) ∧ w'.cell? ⟨w.heap.size, 4, none⟩ = some (.int .i64 l) ∧ w'.cell? ⟨w.heap.size, 5, none⟩ = some (.int .i64 c)) (go_keep) (first | (go_at_call 77; refine (HTK.out _ (by exact hD.still (Kept.refl [] _).drew)).mono ?_; rintro e w2 ⟨rfl, H2, D2, T2⟩; obtain ⟨r0, r3, r4, r5⟩ := HCC.out w2 H2 T2))
    all_goals
      have hF2 := (HCE.out w2 H2 T2).2
      have HA' := (show Hid _ from HAF.out w2 H2 D2 T2)
      obtain ⟨j0, j1, j2, j3⟩ := zero_cells hF2
      have y := free_of hF2
      go_wp2
      exact bodyPost_ret (v := .agg #[.int .i64 0, .string ⟨#[]⟩, .int .i64 0, .int .i64 0]) (by simp [results, Tryz.results62, go_sem, j0, j1, j2, j3]) rfl
        ⟨rfl, H2, (HA'.out _ _ _ _).1, (HA'.out _ _ _ _).2⟩

end Go.Proofs.YtcipkfhpcbddiaaGreat
