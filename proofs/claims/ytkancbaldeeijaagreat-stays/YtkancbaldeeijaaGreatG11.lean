/- Our texts: PuC, Rw, KEq. -/
import Derived.Test.YtkancbaldeeijaaGreatG03
import Derived.Test.YtkancbaldeeijaaGreatG10
/- A text cut short: where it is well-formed, the whole goes on from there. No walk. -/
namespace Go.Proofs.YtkancbaldeeijaaGreat
open Go.RowKit

/-- S is the beginning of T. -/
structure CutT (S T : ByteArray) : Prop where
  le : S.size ≤ T.size
  same : ∀ i, i < S.size → byteAt T i = byteAt S i

theorem skip_cut {S T : ByteArray} (h : CutT S T) (k : Nat) (hk : k ≤ S.size) : (skip S k < S.size → skip T k = skip S k) ∧ (skip S k = S.size → skip T k = skip T S.size) := by
  have hle := h.le
  suffices H : ∀ n k, k ≤ S.size → S.size - k = n → (skip S k < S.size → skip T k = skip S k) ∧ (skip S k = S.size → skip T k = skip T S.size) from H _ k hk rfl
  intro n
  induction n with
  | zero =>
    intro k hk hn
    have e : k = S.size := by omega
    subst e
    have e1 : skip S S.size = S.size := skip_off S _ (by omega)
    exact ⟨fun h1 => by omega, fun _ => rfl⟩
  | succ n ih =>
    intro k hk hn
    have hkl : k < S.size := by omega
    cases hb : blankB (byteAt S k) with
    | true =>
      rw [skip_on S k hkl hb, skip_on T k (by omega) (by rw [h.same k hkl]; exact hb)]
      exact ih (k + 1) (by omega) (by omega)
    | false =>
      have e1 : skip S k = k := skip_off S k (by simp [hb])
      have e2 : skip T k = k := skip_off T k (by rw [h.same k hkl]; simp [hb])
      rw [e1, e2]
      exact ⟨fun _ => rfl, fun h1 => by omega⟩
theorem word_cut {S T : ByteArray} (h : CutT S T) (k : Nat) (hk : k ≤ S.size) : (wordEnd S k < S.size → wordEnd T k = wordEnd S k) ∧ (wordEnd S k = S.size → wordEnd T k = wordEnd T S.size) := by
  have hle := h.le
  suffices H : ∀ n k, k ≤ S.size → S.size - k = n → (wordEnd S k < S.size → wordEnd T k = wordEnd S k) ∧ (wordEnd S k = S.size → wordEnd T k = wordEnd T S.size) from H _ k hk rfl
  intro n
  induction n with
  | zero =>
    intro k hk hn
    have e : k = S.size := by omega
    subst e
    have e1 : wordEnd S S.size = S.size := word_off S _ (by omega)
    exact ⟨fun h1 => by omega, fun _ => rfl⟩
  | succ n ih =>
    intro k hk hn
    have hkl : k < S.size := by omega
    by_cases hb : blankB (byteAt S k) = false ∧ plainB (byteAt S k) = true
    · rw [word_on S k hkl hb.1 hb.2, word_on T k (by omega) (by rw [h.same k hkl]; exact hb.1) (by rw [h.same k hkl]; exact hb.2)]
      exact ih (k + 1) (by omega) (by omega)
    · have e1 := word_off S k (fun hh => hb ⟨hh.2.1, hh.2.2⟩)
      rw [e1, word_off T k (fun hh => hb (by rw [← h.same k hkl]; exact ⟨hh.2.1, hh.2.2⟩))]
      exact ⟨fun _ => rfl, fun h1 => by omega⟩
theorem extract_cut {S T : ByteArray} (h : CutT S T) (a z : Nat) (hz : z ≤ S.size) : T.extract a z = S.extract a z := by
  have hle := h.le
  apply ByteArray.ext
  apply Array.ext
  · simp; omega
  · intro i h1 h2
    have hi : a + i < S.size := by simp at h2; omega
    have := h.same (a + i) hi
    rw [byteAt_of T _ (by omega), byteAt_of S _ hi] at this
    have e : (T[a + i]'(by omega)).toNat = S[a + i].toNat := by omega
    have e2 : (T[a + i]'(by omega)) = S[a + i] := UInt8.toNat_inj.1 e
    simpa [ByteArray.getElem_eq_getElem_data] using e2

theorem run_cut {S T : ByteArray} (h : CutT S T) (k : Nat) (hk : k ≤ S.size) :
    ((runF S k).1.fin = true ∧ runF T k = runF T S.size) ∨ ((runF S k).1.fin = false ∧ runF T k = runF S k) ∨
    (isWordF (runF S k).1 = true ∧ isWordF (runF T k).1 = false ∧ (runF T k).1.fin = false) ∨
    (∃ a z, a < S.size ∧ S.size < z ∧ z ≤ T.size ∧ runF S k = (⟨S.extract a S.size, 0, false, a⟩, S.size) ∧ runF T k = (⟨T.extract a z, 0, false, a⟩, z)) := by
  have hle := h.le
  have sp := skip_cut h k hk
  have sl := skip_le S k hk
  have wp := word_cut h (skip S k) sl.2
  rcases runF_cases S k hk with ⟨z, hz, hw, hb, he⟩ | ⟨hs, he⟩ | ⟨z, hz1, hz2, hw, hb, he⟩
  · right; left
    refine ⟨by rw [he], ?_⟩
    have a := wordEnd_le S (skip S k) sl.2
    have es : skip T k = skip S k := sp.1 (by omega)
    have ew : wordEnd T (skip S k) = z := (wp.1 (by omega)).trans hw
    rw [he]
    simp only [runF, es, ew]
    rw [if_pos ⟨by omega, by rw [h.same z hz]; exact hb⟩]
  · left
    refine ⟨by rw [he], ?_⟩
    have es := sp.2 hs
    simp only [runF, es]
  · have es : skip T k = skip S k := sp.1 (by omega)
    rcases Nat.lt_or_ge z S.size with hl | hl
    · right; left
      refine ⟨by rw [he], ?_⟩
      have ew : wordEnd T (skip S k) = z := (wp.1 (by omega)).trans hw
      rw [he]
      simp only [runF, es, ew]
      have hne : ¬ (z < T.size ∧ blankB (byteAt T z) = false) := by
        rintro ⟨_, hbz⟩
        rw [h.same z hl] at hbz; exact hb ⟨hl, hbz⟩
      rw [if_neg hne, if_neg (by omega), extract_cut h _ _ hz2]
    · have ez : z = S.size := by omega
      subst ez
      have ew : wordEnd T (skip S k) = wordEnd T S.size := wp.2 hw
      have wl := wordEnd_le T S.size hle
      rcases runF_cases T k (by omega) with ⟨y, hy, hwy, hby, hey⟩ | ⟨hsy, hey⟩ | ⟨y, hy1, hy2, hwy, hby, hey⟩
      · right; right; left; rw [he, hey]; exact ⟨rfl, rfl, rfl⟩
      · omega
      · rw [es] at hwy hy1 hey
        rw [ew] at hwy
        rcases Nat.lt_or_ge S.size y with hg | hg
        · right; right; right; exact ⟨skip S k, y, by omega, hg, hy2, he, hey⟩
        · have e : y = S.size := by omega
          subst e
          right; left
          refine ⟨by rw [he], ?_⟩
          rw [he, hey, extract_cut h _ _ (Nat.le_refl _)]
theorem two_bytes (d : ByteArray) (c : UInt8) (h : (d.toList == [36, c]) = true) : d.size = 2 ∧ byteAt d 0 = 36 ∧ byteAt d 1 = (c.toNat : Int) := by
  have hl : d.toList = [36, c] := by simpa using h
  have hl2 : d.data.toList = [36, c] := by rw [← ByteArray.toList_eq]; exact hl
  have hd : d = ⟨#[36, c]⟩ := by
    apply ByteArray.ext
    apply Array.toList_inj.1
    exact hl2
  subst hd
  exact ⟨rfl, rfl, rfl⟩
theorem long_not (d : ByteArray) (a b : UInt8) (h : 2 < d.size) : (d.toList == [a, b]) = false := by
  rw [beq_eq_false_iff_ne]
  intro e
  have : d.toList.length = 2 := by rw [e]; rfl
  rw [ByteArray.toList_eq] at this
  have h2 : d.data.toList.length = d.size := Array.length_toList
  omega
theorem byteAt_extract (d : ByteArray) (a z i : Nat) (hz : z ≤ d.size) (hi : a + i < z) : byteAt (d.extract a z) i = byteAt d (a + i) := by
  have h1 : i < (d.extract a z).size := by simp; omega
  rw [byteAt_of _ _ h1, byteAt_of d _ (by omega)]
  congr 2
  simp [ByteArray.getElem_eq_getElem_data]
/-- A word of two bytes that the cut made; the whole has a longer one. -/
theorem longer {S T : ByteArray} (h : CutT S T) (a z : Nat) (c : UInt8) (ha : a < S.size) (hz : S.size < z) (hzt : z ≤ T.size) (hw : ((S.extract a S.size).toList == [36, c]) = true) :
    2 < (T.extract a z).size ∧ byteAt (T.extract a z) 0 = 36 ∧ byteAt (T.extract a z) 1 = (c.toNat : Int) := by
  obtain ⟨h1, h2, h3⟩ := two_bytes _ c hw
  have hs : S.size = a + 2 := by simp at h1; omega
  rw [byteAt_extract S a S.size 0 (Nat.le_refl _) (by omega), Nat.add_zero] at h2
  rw [byteAt_extract S a S.size 1 (Nat.le_refl _) (by omega)] at h3
  refine ⟨by simp; omega, ?_, ?_⟩
  · rw [byteAt_extract T a z 0 hzt (by omega), Nat.add_zero, h.same a ha]; exact h2
  · rw [byteAt_extract T a z 1 hzt (by omega), h.same (a + 1) (by omega)]; exact h3

theorem comment_nil (S : ByteArray) : isWordF (commentF S S.size).1 = false := by
  have hr : runF S S.size = (⟨⟨#[]⟩, 0, true, S.size⟩, S.size) := runF_no S S.size (Nat.le_refl _) (Nat.le_refl _)
  rw [comment_open S S.size (by rw [hr]; rfl) (by rw [hr])]; rfl

theorem comment_cut {S T : ByteArray} (h : CutT S T) (k : Nat) (hk : k ≤ S.size) (hw : isWordF (commentF S k).1 = true) : commentF T k = commentF S k ∨ isWordF (commentF T k).1 = false := by
  have hle := h.le
  suffices H : ∀ n k, k ≤ S.size → S.size - k ≤ n → isWordF (commentF S k).1 = true → commentF T k = commentF S k ∨ isWordF (commentF T k).1 = false from H _ k hk (Nat.le_refl _) hw
  clear hk hw k
  intro n
  induction n with
  | zero =>
    intro k hk hn hw
    have e : k = S.size := by omega
    subst e
    rw [comment_nil S] at hw; cases hw
  | succ n ih =>
    intro k hk hn hw
    have rl := runF_le S k hk
    rcases run_cut h k hk with ⟨hf, _⟩ | ⟨hf, er⟩ | ⟨_, hb, hf⟩ | ⟨a, z, ha, hz, hzt, es, et⟩
    · have hwf : isWordF (runF S k).1 = false := by simp [isWordF, hf]
      rw [comment_open S k hwf hf] at hw; cases hw
    · cases hw1 : isWordF (runF S k).1 with
      | true =>
        have rl2 := rl.2.2 hw1
        cases hx : ((runF S k).1.text.toList == [36, 41]) with
        | true => left; rw [comment_close S k hw1 hx, comment_close T k (by rw [er]; exact hw1) (by rw [er]; exact hx), er]
        | false =>
          cases hy : bracketF (runF S k).1.text with
          | true => rw [comment_nest S k hw1 hx hy] at hw; cases hw
          | false =>
            rw [comment_on S k hk hw1 hx hy] at hw ⊢
            rw [comment_on T k (by omega) (by rw [er]; exact hw1) (by rw [er]; exact hx) (by rw [er]; exact hy), er]
            exact ih _ rl.2.1 (by omega) hw
      | false => rw [comment_bad S k hw1 hf, hw1] at hw; cases hw
    · right; rw [comment_bad T k hb hf]; exact hb
    · have hw1 : isWordF (runF S k).1 = true := by rw [es]; rfl
      have hw2 : isWordF (runF T k).1 = true := by rw [et]; rfl
      cases hx : ((runF S k).1.text.toList == [36, 41]) with
      | true =>
        right
        rw [es] at hx
        obtain ⟨l1, l2, l3⟩ := longer h a z 41 ha hz hzt hx
        have hbr : bracketF (T.extract a z) = true := any_yes 1 (by omega) (by simp [l2, l3])
        rw [comment_nest T k hw2 (by rw [et]; exact long_not _ _ _ l1) (by rw [et]; exact hbr)]; rfl
      | false =>
        cases hy : bracketF (runF S k).1.text with
        | true => rw [comment_nest S k hw1 hx hy] at hw; cases hw
        | false =>
          rw [comment_on S k hk hw1 hx hy, es, comment_nil S] at hw; cases hw

theorem next_cut {S T : ByteArray} (h : CutT S T) (k : Nat) (hk : k ≤ S.size) :
    (isWordF (nextF S k).1 = true → nextF T k = nextF S k ∨ (isWordF (nextF T k).1 = false ∧ (nextF T k).1.fin = false) ∨
      (∃ a z j, a < S.size ∧ S.size < z ∧ z ≤ T.size ∧ j ≤ S.size ∧ nextF S k = (⟨S.extract a S.size, 0, false, a⟩, S.size) ∧ runF T j = (⟨T.extract a z, 0, false, a⟩, z) ∧ nextF T k = nextF T j)) ∧
    ((nextF S k).1.fin = true → nextF T k = nextF T S.size ∨ (isWordF (nextF T k).1 = false ∧ (nextF T k).1.fin = false)) := by
  have hle := h.le
  suffices H : ∀ n k, k ≤ S.size → S.size - k ≤ n → (isWordF (nextF S k).1 = true → nextF T k = nextF S k ∨ (isWordF (nextF T k).1 = false ∧ (nextF T k).1.fin = false) ∨
      (∃ a z j, a < S.size ∧ S.size < z ∧ z ≤ T.size ∧ j ≤ S.size ∧ nextF S k = (⟨S.extract a S.size, 0, false, a⟩, S.size) ∧ runF T j = (⟨T.extract a z, 0, false, a⟩, z) ∧ nextF T k = nextF T j)) ∧
    ((nextF S k).1.fin = true → nextF T k = nextF T S.size ∨ (isWordF (nextF T k).1 = false ∧ (nextF T k).1.fin = false)) from H _ k hk (Nat.le_refl _)
  clear hk k
  intro n
  induction n with
  | zero =>
    intro k hk hn
    have e : k = S.size := by omega
    subst e
    have hr : runF S S.size = (⟨⟨#[]⟩, 0, true, S.size⟩, S.size) := runF_no S S.size (Nat.le_refl _) (Nat.le_refl _)
    have hn' : nextF S S.size = runF S S.size := next_plain S _ (Or.inl (by rw [hr]; rfl))
    rw [hn', hr]
    exact ⟨fun hw => by simp [isWordF] at hw, fun _ => Or.inl rfl⟩
  | succ n ih =>
    intro k hk hn
    have rl := runF_le S k hk
    rcases run_cut h k hk with ⟨hf, er⟩ | ⟨hf, er⟩ | ⟨hws, hb, hf⟩ | ⟨a, z, ha, hz, hzt, es, et⟩
    · have hwf : isWordF (runF S k).1 = false := by simp [isWordF, hf]
      rw [next_plain S k (Or.inl hwf)]
      exact ⟨fun hw => (by rw [hwf] at hw; cases hw), fun _ => Or.inl (next_congr T _ _ (by omega) hle er)⟩
    · by_cases hc : isWordF (runF S k).1 = true ∧ ((runF S k).1.text.toList == [36, 40]) = true
      · have rl2 := rl.2.2 hc.1
        cases hcw : isWordF (commentF S (runF S k).2).1 with
        | true =>
          have cl := commentF_le S (runF S k).2 rl.2.1
          rcases comment_cut h (runF S k).2 rl.2.1 hcw with ec | ec
          · rw [next_on S k hk hc.1 hc.2 hcw, next_on T k (by omega) (by rw [er]; exact hc.1) (by rw [er]; exact hc.2) (by rw [er, ec]; exact hcw), er, ec]
            exact ih _ cl.2 (by omega)
          · have et : nextF T k = commentF T (runF T k).2 := next_broken T k (by rw [er]; exact hc.1) (by rw [er]; exact hc.2) (by rw [er]; exact ec)
            rw [et, er]
            exact ⟨fun _ => Or.inr (Or.inl ⟨ec, commentF_fin _ _⟩), fun _ => Or.inr ⟨ec, commentF_fin _ _⟩⟩
        | false =>
          rw [next_broken S k hc.1 hc.2 hcw]
          exact ⟨fun hw => (by rw [hcw] at hw; cases hw), fun hf' => (by rw [commentF_fin] at hf'; cases hf')⟩
      · have hc' : isWordF (runF S k).1 = false ∨ ((runF S k).1.text.toList == [36, 40]) = false := by
          cases h1 : isWordF (runF S k).1 with
          | false => exact Or.inl rfl
          | true =>
            cases h2 : ((runF S k).1.text.toList == [36, 40]) with
            | false => exact Or.inr rfl
            | true => exact absurd ⟨h1, h2⟩ hc
        rw [next_plain S k hc', next_plain T k (by rw [er]; exact hc'), er]
        exact ⟨fun _ => Or.inl rfl, fun hf' => by rw [hf] at hf'; cases hf'⟩
    · rw [next_plain T k (Or.inl hb)]
      exact ⟨fun _ => Or.inr (Or.inl ⟨hb, hf⟩), fun _ => Or.inr ⟨hb, hf⟩⟩
    · have hw1 : isWordF (runF S k).1 = true := by rw [es]; rfl
      cases hx : ((runF S k).1.text.toList == [36, 40]) with
      | true =>
        have hcn : isWordF (commentF S (runF S k).2).1 = false := by rw [es]; exact comment_nil S
        rw [next_broken S k hw1 hx hcn]
        exact ⟨fun hw => (by rw [hcn] at hw; cases hw), fun hf' => (by rw [commentF_fin] at hf'; cases hf')⟩
      | false =>
        rw [next_plain S k (Or.inr hx)]
        refine ⟨fun _ => Or.inr (Or.inr ⟨a, z, k, ha, hz, hzt, hk, es, et, rfl⟩), fun hf' => by rw [es] at hf'; cases hf'⟩

theorem take_closes (d : Db) (w : ByteArray) (p : Pl) (h : (takeF d w p).1 = 0) (ho : openF (takeF d w p).2 = false) : (w.toList == [36, 46]) = true ∨ (w.toList == [36, 125]) = true := by
  cases h46 : (w.toList == [36, 46]) with
  | true => exact Or.inl rfl
  | false =>
    cases h125 : (w.toList == [36, 125]) with
    | true => exact Or.inr rfl
    | false =>
      exfalso
      unfold takeF at h ho
      rw [h46] at h ho
      cases hk0 : (d.kind == 0) with
      | true =>
        rw [if_pos hk0] at h ho
        unfold takeFirstF at h ho
        rw [h125] at h ho
        repeat' split at h
        all_goals first | (simp at h; done) | skip
        all_goals simp_all [openF, takeLabelF]
        all_goals (repeat' split at ho)
        all_goals simp_all
      | false =>
        have hk0' : d.kind ≠ 0 := by simpa using hk0
        have hop : ∀ d' : Db, d'.kind ≠ 0 → openF d' = true := fun d' hd => by unfold openF; simp [hd]
        rw [if_neg (by rw [hk0]; simp)] at h ho
        cases hk6 : (d.kind == 6) with
        | true =>
          rw [if_pos hk6] at h ho
          unfold takeKeywordF at h ho
          cases e1 : (w.toList == [36, 102]) with
          | true => rw [e1, if_pos rfl, hop _ (by simp)] at ho; cases ho
          | false =>
            cases e2 : (w.toList == [36, 101]) with
            | true => rw [e1, e2, if_neg (by simp), if_pos rfl, hop _ (by simp)] at ho; cases ho
            | false =>
              cases e3 : (w.toList == [36, 97]) with
              | true => rw [e1, e2, e3, if_neg (by simp), if_neg (by simp), if_pos rfl, hop _ (by simp)] at ho; cases ho
              | false =>
                cases e4 : (w.toList == [36, 112]) with
                | true => rw [e1, e2, e3, e4, if_neg (by simp), if_neg (by simp), if_neg (by simp), if_pos rfl, hop _ (by simp)] at ho; cases ho
                | false => rw [e1, e2, e3, e4] at h; simp at h
        | false =>
          rw [if_neg (by rw [hk6]; simp), if_neg (by simp)] at h ho
          have key : ∀ R : Int × Db, R.2.kind = d.kind → openF R.2 = false → False := fun R hR ho => by
            rw [hop _ (by rw [hR]; exact hk0')] at ho; cases ho
          refine key _ ?_ ho
          unfold beginProofF
          repeat' split
          all_goals rfl

theorem take_long (d : Db) (w : ByteArray) (p : Pl) (hs : 2 < w.size) (hd : dollarF w = true) : (takeF d w p).1 ≠ 0 := by
  have hn := fun a b => long_not w a b hs
  unfold takeF
  split
  · unfold takeFirstF takeLabelF
    simp only [hn, hd, Bool.false_eq_true, if_false, if_true, or_self]; decide
  · split
    · unfold takeKeywordF
      simp only [hn, Bool.false_eq_true, if_false]; decide
    · simp only [hn, Bool.false_eq_true, if_false, false_and]; decide

theorem line_cut {S T : ByteArray} (h : CutT S T) (p : Nat) (hp : p ≤ S.size) : lineAt T p = lineAt S p ∧ colAt T p = colAt S p := by
  induction p with
  | zero => exact ⟨rfl, rfl⟩
  | succ p ih =>
    have i := ih (by omega)
    rw [lineAt, lineAt, colAt, colAt, h.same p (by omega), i.1, i.2]
    exact ⟨rfl, rfl⟩
theorem plAt_cut {S T : ByteArray} (h : CutT S T) (n : ByteArray) (p : Nat) (hp : p ≤ S.size) : plAt n T p = plAt n S p := by
  unfold plAt; rw [(line_cut h p hp).1, (line_cut h p hp).2]

theorem read_cut {S T : ByteArray} (h : CutT S T) (nm : ByteArray) (k : Nat) (d : Db) (hk : k ≤ S.size) (hS : (readF nm S k d).1.1 = 0) (hT : (readF nm T k d).1.1 = 0) :
    openF (readF nm S k d).2 = false ∧ ∃ j, readF nm T k d = readF nm T j (readF nm S k d).2 := by
  have hle := h.le
  have bad : ∀ k d, isWordF (nextF T k).1 = false → (nextF T k).1.fin = false → (readF nm T k d).1.1 = 0 → False := by
    intro k d hw hf h0
    rw [read_bad nm T k d hw hf] at h0
    have := isWordF_not hw hf
    simp only at h0
    rw [h0] at this; simp at this
  suffices H : ∀ n k d, k ≤ S.size → S.size - k ≤ n → (readF nm S k d).1.1 = 0 → (readF nm T k d).1.1 = 0 → openF (readF nm S k d).2 = false ∧ ∃ j, readF nm T k d = readF nm T j (readF nm S k d).2 from H _ k d hk (Nat.le_refl _) hS hT
  clear hk hS hT k d
  have atEnd : ∀ d, (readF nm S S.size d).1.1 = 0 → openF d = false ∧ (readF nm S S.size d).2 = d := by
    intro d h0
    have hr : runF S S.size = (⟨⟨#[]⟩, 0, true, S.size⟩, S.size) := runF_no S S.size (Nat.le_refl _) (Nat.le_refl _)
    have hn' : nextF S S.size = runF S S.size := next_plain S _ (Or.inl (by rw [hr]; rfl))
    have hw : isWordF (nextF S S.size).1 = false := by rw [hn', hr]; rfl
    have hf : (nextF S S.size).1.fin = true := by rw [hn', hr]
    cases ho : openF d with
    | true => rw [read_open nm S _ d hw hf ho] at h0; simp at h0
    | false => rw [read_end nm S _ d hw hf ho]; exact ⟨rfl, rfl⟩
  intro n
  induction n with
  | zero =>
    intro k d hk hn hS hT
    have e : k = S.size := by omega
    subst e
    obtain ⟨a1, a2⟩ := atEnd d hS
    rw [a2]
    exact ⟨a1, S.size, rfl⟩
  | succ n ih =>
    intro k d hk hn hS hT
    have nl := nextF_le S k hk
    have nc := next_cut h k hk
    cases hw : isWordF (nextF S k).1 with
    | true =>
      have nl2 := nl.2.2 hw
      have ep := plAt_cut h nm (nextF S k).1.pos (nextF_pos S k hk).2
      cases ht : ((takeF d (nextF S k).1.text (plAt nm S (nextF S k).1.pos)).1 == 0) with
      | true =>
        rcases nc.1 hw with en | ⟨hb, hf⟩ | ⟨a, z, j, ha, hz, hzt, hj, es, et, en⟩
        · rw [read_on nm S k d hk hw ht] at hS ⊢
          rw [read_on nm T k d (by omega) (by rw [en]; exact hw) (by rw [en, ep]; exact ht), en, ep] at hT ⊢
          exact ih _ _ nl.2.1 (by omega) hS hT
        · exact absurd hT (fun h0 => bad k d hb hf h0)
        · exfalso
          rw [read_on nm S k d hk hw ht] at hS
          rw [es] at hS ht
          obtain ⟨a1, -⟩ := atEnd _ hS
          have hcl : ∃ c : UInt8, ((S.extract a S.size).toList == [36, c]) = true ∧ c ≠ 40 := by
            rcases take_closes d _ _ (by simpa using ht) a1 with e | e
            · exact ⟨46, e, by decide⟩
            · exact ⟨125, e, by decide⟩
          obtain ⟨c, hc, _⟩ := hcl
          obtain ⟨l1, l2, l3⟩ := longer h a z c ha hz hzt hc
          have hdl : dollarF (T.extract a z) = true := any_yes 0 (by omega) (by simp [l2])
          have ej : nextF T j = runF T j := next_plain T j (Or.inr (by rw [et]; exact long_not _ _ _ l1))
          rw [ej, et] at en
          have hl := take_long d (T.extract a z) (plAt nm T a) l1 hdl
          rw [read_rule nm T k d (by rw [en]; rfl) (by rw [en]; simpa using hl), en] at hT
          exact hl hT
      | false =>
        rw [read_rule nm S k d hw ht] at hS
        simp only at hS
        rw [hS] at ht; simp at ht
    | false =>
      cases hf : (nextF S k).1.fin with
      | true =>
        cases ho : openF d with
        | true => rw [read_open nm S k d hw hf ho] at hS; simp at hS
        | false =>
          rw [read_end nm S k d hw hf ho]
          rcases nc.2 hf with en | ⟨hb, hf2⟩
          · exact ⟨ho, S.size, read_congr nm T _ _ d (by omega) hle en⟩
          · exact absurd hT (fun h0 => bad k d hb hf2 h0)
      | false =>
        rw [read_bad nm S k d hw hf] at hS
        have := isWordF_not hw hf
        simp only at hS
        rw [hS] at this; simp at this

theorem cut_of (T : ByteArray) (k : Nat) (hk : k ≤ T.size) : CutT (T.extract 0 k) T := by
  have hs : (T.extract 0 k).size = k := by simp; omega
  refine ⟨by omega, fun i hi => ?_⟩
  rw [byteAt_extract T 0 k i hk (by omega), Nat.zero_add]
/-- What is said of a shorter text is said of the whole. -/
theorem cut_sts (T : ByteArray) (k : Nat) (hk : k ≤ T.size) (hT : (rdM T).1.1 = 0) (hS : (rdM (T.extract 0 k)).1.1 = 0) : ∃ m, (rdM T).2.sts = (rdM (T.extract 0 k)).2.sts ++ m := by
  obtain ⟨ho, j, he⟩ := read_cut (cut_of T k hk) ⟨#[109]⟩ 0 emptyDb (Nat.zero_le _) hS hT
  obtain ⟨m, hm⟩ := readTo_bnd ⟨#[109]⟩ (T.extract 0 k) ((T.extract 0 k).size - 0 + 1) 0 emptyDb ⟨0, Bnd.empty⟩
  have x := readF_ext ⟨#[109]⟩ T j _ (Ext.begin (d := (readF ⟨#[109]⟩ (T.extract 0 k) 0 emptyDb).2) hm ho)
  rw [← he] at x
  exact x.pre
theorem holds_cut (T : ByteArray) (k : Nat) (hk : k ≤ T.size) (h : holdsF T = false) : holdsF (T.extract 0 k) = false := by
  have c := cut_of T k hk
  have hs : (T.extract 0 k).size = k := by simp; omega
  rw [holds_iff] at h ⊢
  rintro i hi ⟨h1, h2⟩
  exact h i (by omega) ⟨by rw [c.same i (by omega)]; exact h1, by rw [c.same (i + 1) (by omega)]; exact h2⟩

end Go.Proofs.YtkancbaldeeijaaGreat

/- Rows of a report. -/
namespace Go.Proofs.YtkancbaldeeijaaGreat
open Go.RowKit

structure Rw where
  label : ByteArray
  verdict : Int
  why : Int
  at_ : Pl
def rwV (r : Rw) : List Value := [.string r.label, .int .i64 r.verdict, .int .i64 r.why, .string r.at_.file, .int .i64 r.at_.line, .int .i64 r.at_.col]
def rwsV (l : List Rw) : List Value := l.flatMap rwV
def rowR (l : List Rw) : Row := ⟨71, 6, l.length, rwsV l⟩
def noPl : Pl := ⟨⟨#[]⟩, 0, 0⟩
def zRw : Rw := ⟨⟨#[]⟩, 0, 0, noPl⟩
theorem rowR_snoc (l : List Rw) (s : Rw) : (⟨(rowR l).e, (rowR l).size, (rowR l).n + 1, (rowR l).xs ++ rwV s⟩ : Row) = rowR (l ++ [s]) := by simp [rowR, rwsV]
theorem rwV_one (s : Rw) : ∀ u ∈ rwV s, u.oneCell' = true := by
  intro u hu
  simp only [rwV, List.mem_cons, List.not_mem_nil, or_false] at hu
  rcases hu with rfl | rfl | rfl | rfl | rfl | rfl <;> rfl
theorem infoR : (Tryz.prog.info? 71).map (fun i => (i.zero, i.size, i.bytes)) = some (some (.agg #[.string ⟨#[]⟩, .int .i64 0, .int .i64 0, .string ⟨#[]⟩, .int .i64 0, .int .i64 0]), 6, 64) := by kernel_rfl
theorem rwsV_len (l : List Rw) : (rwsV l).length = l.length * 6 := by
  induction l with
  | nil => rfl
  | cons x r ih => have e : rwsV (x :: r) = rwV x ++ rwsV r := rfl
                   rw [e, List.length_append, ih]; simp [rwV]; omega
theorem rwsV_at (l : List Rw) (k : Nat) (hk : k < l.length) (j : Nat) (hj : j < 6) : (rwsV l)[k * 6 + j]? = (rwV l[k])[j]? := by
  induction l generalizing k with
  | nil => simp at hk
  | cons s r ih =>
    have e : rwsV (s :: r) = rwV s ++ rwsV r := rfl
    rw [e]
    cases k with
    | zero => rw [List.getElem?_append_left (by simp [rwV]; omega)]; simp
    | succ k =>
      rw [List.getElem?_append_right (by simp [rwV]; omega)]
      have e2 : (k + 1) * 6 + j - (rwV s).length = k * 6 + j := by simp [rwV]; omega
      rw [e2, ih k (by simpa using hk)]; rfl

end Go.Proofs.YtkancbaldeeijaaGreat

/- Package metaproofkeep: faults, places, rows that are the same; sameRow, sameRows, begins. -/
namespace Go.Proofs.YtkancbaldeeijaaGreat
open Go.RowKit

theorem uF : Tryz.prog.underlying 47 = some (.struct (Tryz.prog.fieldsOf 47)) := by kernel_rfl
theorem uP : Tryz.prog.underlying 45 = some (.struct (Tryz.prog.fieldsOf 45)) := by kernel_rfl
theorem sF : Tryz.prog.stoodInHeld 47 = false := by kernel_rfl
theorem sP : Tryz.prog.stoodInHeld 45 = false := by kernel_rfl
theorem partF0 (a : Value) (b c d : Value) (w : World) : (part 3 #[a, b, c, d] 0).run Tryz.prog w = .ok a w := by kernel_rfl
theorem partF1 (a b c d : Value) (w : World) : (part 45 #[a, b, c, d] 1).run Tryz.prog w = .ok (.agg #[b, c, d]) w := by kernel_rfl
theorem partP0 (a b c : Value) (w : World) : (part 9 #[a, b, c] 0).run Tryz.prog w = .ok a w := by kernel_rfl
theorem partP1 (a b c : Value) (w : World) : (part 3 #[a, b, c] 1).run Tryz.prog w = .ok b w := by kernel_rfl
theorem partP2 (a b c : Value) (w : World) : (part 3 #[a, b, c] 2).run Tryz.prog w = .ok c w := by kernel_rfl
theorem eqP (d : Nat) (xs ys : Array Value) : Op.eqFields d xs ys (Tryz.prog.fieldsOf 45).toList = (do let a ← part 9 xs 0; let b ← part 9 ys 0; let r ← Op.equalIn d 9 a b; if (!r) = true then pure false else do
   let a ← part 3 xs 1; let b ← part 3 ys 1; let r ← Op.equalIn d 3 a b; if (!r) = true then pure false else do
   let a ← part 3 xs 2; let b ← part 3 ys 2; let r ← Op.equalIn d 3 a b; if (!r) = true then pure false else pure true) := by kernel_rfl
theorem placeEq (d : Nat) (s : ByteArray) (l c : Int) (w : World) : (Op.equalIn (d + 2) 45 (.agg #[.string s, .int .i64 l, .int .i64 c]) (.agg #[.string s, .int .i64 l, .int .i64 c])).run Tryz.prog w = .ok true w := by
  rw [run_equalIn_agg w (d + 1) 45 _ _ uP sP, eqP]
  simp [Sem.run_bind, partP0, partP1, partP2, run_equalIn_string w d 9 s s Tryz.underlying9, run_equalIn_int w d 3 .i64 .i64 l l Tryz.underlying3, run_equalIn_int w d 3 .i64 .i64 c c Tryz.underlying3]
theorem eqF (d : Nat) (xs ys : Array Value) : Op.eqFields d xs ys (Tryz.prog.fieldsOf 47).toList = (do let a ← part 3 xs 0; let b ← part 3 ys 0; let r ← Op.equalIn d 3 a b; if (!r) = true then pure false else do
   let a ← part 45 xs 1; let b ← part 45 ys 1; let r ← Op.equalIn d 45 a b; if (!r) = true then pure false else pure true) := by kernel_rfl
theorem faultEq (d : Nat) (r : Int) (s : ByteArray) (l c : Int) (w : World) : (Op.equalIn (d + 3) 47 (.agg #[.int .i64 r, .string s, .int .i64 l, .int .i64 c]) (.agg #[.int .i64 r, .string s, .int .i64 l, .int .i64 c])).run Tryz.prog w = .ok true w := by
  rw [run_equalIn_agg w (d + 2) 47 _ _ uF sF, eqF]
  simp [Sem.run_bind, partF0, partF1, placeEq d s l c, run_equalIn_int w (d + 1) 3 .i64 .i64 r r Tryz.underlying3]
theorem faultNeq (r : Int) (s : ByteArray) (l c : Int) (w : World) : (binOp .neq 47 (.agg #[.int .i64 r, .string s, .int .i64 l, .int .i64 c]) (.agg #[.int .i64 r, .string s, .int .i64 l, .int .i64 c])).run Tryz.prog w = .ok (.bool false) w := by
  rw [run_neq_struct, show (10000 : Nat) = 9997 + 3 from rfl, faultEq]; simp
theorem placeNeq (s : ByteArray) (l c : Int) (w : World) : (binOp .neq 45 (.agg #[.string s, .int .i64 l, .int .i64 c]) (.agg #[.string s, .int .i64 l, .int .i64 c])).run Tryz.prog w = .ok (.bool false) w := by
  rw [run_neq_struct, show (10000 : Nat) = 9998 + 2 from rfl, placeEq]; simp
theorem placeEql (s : ByteArray) (l c : Int) (w : World) : (binOp .eql 45 (.agg #[.string s, .int .i64 l, .int .i64 c]) (.agg #[.string s, .int .i64 l, .int .i64 c])).run Tryz.prog w = .ok (.bool true) w := by
  rw [run_eql_struct, show (10000 : Nat) = 9998 + 2 from rfl, placeEq]; simp

theorem uR : Tryz.prog.underlying 71 = some (.struct (Tryz.prog.fieldsOf 71)) := by kernel_rfl
theorem sR : Tryz.prog.stoodInHeld 71 = false := by kernel_rfl
theorem partR0 (a b c d e f : Value) (w : World) : (part 9 #[a, b, c, d, e, f] 0).run Tryz.prog w = .ok a w := by kernel_rfl
theorem partR1 (a b c d e f : Value) (w : World) : (part 3 #[a, b, c, d, e, f] 1).run Tryz.prog w = .ok b w := by kernel_rfl
theorem partR2 (a b c d e f : Value) (w : World) : (part 3 #[a, b, c, d, e, f] 2).run Tryz.prog w = .ok c w := by kernel_rfl
theorem partR3 (a b c d e f : Value) (w : World) : (part 45 #[a, b, c, d, e, f] 3).run Tryz.prog w = .ok (.agg #[d, e, f]) w := by kernel_rfl
theorem eqR (d : Nat) (xs ys : Array Value) : Op.eqFields d xs ys (Tryz.prog.fieldsOf 71).toList = (do let a ← part 9 xs 0; let b ← part 9 ys 0; let r ← Op.equalIn d 9 a b; if (!r) = true then pure false else do
   let a ← part 3 xs 1; let b ← part 3 ys 1; let r ← Op.equalIn d 3 a b; if (!r) = true then pure false else do
   let a ← part 3 xs 2; let b ← part 3 ys 2; let r ← Op.equalIn d 3 a b; if (!r) = true then pure false else do
   let a ← part 45 xs 3; let b ← part 45 ys 3; let r ← Op.equalIn d 45 a b; if (!r) = true then pure false else pure true) := by kernel_rfl
theorem rowEq (d : Nat) (s f : ByteArray) (v y l c : Int) (w : World) : (Op.equalIn (d + 3) 71 (.agg #[.string s, .int .i64 v, .int .i64 y, .string f, .int .i64 l, .int .i64 c]) (.agg #[.string s, .int .i64 v, .int .i64 y, .string f, .int .i64 l, .int .i64 c])).run Tryz.prog w = .ok true w := by
  rw [run_equalIn_agg w (d + 2) 71 _ _ uR sR, eqR]
  simp [Sem.run_bind, partR0, partR1, partR2, partR3, placeEq d f l c, run_equalIn_string w (d + 1) 9 s s Tryz.underlying9, run_equalIn_int w (d + 1) 3 .i64 .i64 v v Tryz.underlying3, run_equalIn_int w (d + 1) 3 .i64 .i64 y y Tryz.underlying3]
theorem rowEql (s f : ByteArray) (v y l c : Int) (w : World) : (binOp .eql 71 (.agg #[.string s, .int .i64 v, .int .i64 y, .string f, .int .i64 l, .int .i64 c]) (.agg #[.string s, .int .i64 v, .int .i64 y, .string f, .int .i64 l, .int .i64 c])).run Tryz.prog w = .ok (.bool true) w := by
  rw [run_eql_struct, show (10000 : Nat) = 9997 + 3 from rfl, rowEq]; simp
attribute [local go_sem] rowEql

/-- A line that can be written. -/
def LnOk (p : Pl) : Prop := -1000000000 ≤ p.line ∧ p.line ≤ 1000000000

set_option maxHeartbeats 800000 in
theorem sameRow_any (s f : ByteArray) (v y l c : Int) (w : World) (hl : -1000000000 ≤ l ∧ l ≤ 1000000000) :
    Calls Tryz.prog 38 #[.agg #[.string s, .int .i64 v, .int .i64 y, .string f, .int .i64 l, .int .i64 c], .agg #[.string s, .int .i64 v, .int .i64 y, .string f, .int .i64 l, .int .i64 c], .int .i64 0] w fun e w' => e = .returned (.bool true) ∧ Kept [] w w' := by
  have hw : IntKind.i64.wrap (l + 0) = l := by rw [IntKind.wrap_i64]; omega
  cases hf : (f.toList == [])
  · go_enter Tryz.func38, Tryz.ntmps38
    go_wp2
    go_ret
    exact ⟨rfl, ((Kept.refl _ _).alloc _).alloc _⟩
  · go_enter Tryz.func38, Tryz.ntmps38
    go_wp2
    go_ret
    exact ⟨rfl, ((Kept.refl _ _).alloc _).alloc _⟩

theorem rw_at {w : World} {g : Nat} {cur : Array Value} {t : TypeId} {L : List Rw} (h : w.heap[g]? = some (.cells cur t (0, 0))) (hx : ∀ (j : Nat) v, (rwsV L)[j]? = some v → cur[j]? = some v) (k : Nat) (hk : k < L.length) :
    w.cell? ⟨g, k * 6, none⟩ = some (.string L[k].label) ∧ w.cell? ⟨g, k * 6 + 1, none⟩ = some (.int .i64 L[k].verdict) ∧ w.cell? ⟨g, k * 6 + 2, none⟩ = some (.int .i64 L[k].why) ∧ w.cell? ⟨g, k * 6 + 3, none⟩ = some (.string L[k].at_.file) ∧ w.cell? ⟨g, k * 6 + 4, none⟩ = some (.int .i64 L[k].at_.line) ∧ w.cell? ⟨g, k * 6 + 5, none⟩ = some (.int .i64 L[k].at_.col) := by
  have c := fun j (hj : j < 6) v (hv : (rwV L[k])[j]? = some v) => (cell_of h (k * 6 + j)).trans (hx _ _ ((rwsV_at L k hk j hj).trans hv))
  exact ⟨c 0 (by omega) _ rfl, c 1 (by omega) _ rfl, c 2 (by omega) _ rfl, c 3 (by omega) _ rfl, c 4 (by omega) _ rfl, c 5 (by omega) _ rfl⟩

set_option maxHeartbeats 1000000 in
set_option maxRecDepth 100000 in
theorem sameRows_some (g1 g2 c1 c2 : Nat) (L : List Rw) (w : World) (cur1 cur2 : Array Value) (t1 t2 : TypeId) (h1 : w.heap[g1]? = some (.cells cur1 t1 (0, 0))) (h2 : w.heap[g2]? = some (.cells cur2 t2 (0, 0)))
    (x1 : ∀ (j : Nat) v, (rwsV L)[j]? = some v → cur1[j]? = some v) (x2 : ∀ (j : Nat) v, (rwsV L)[j]? = some v → cur2[j]? = some v) (hL : L.length ≤ 100000) (hl : ∀ r ∈ L, LnOk r.at_) :
    Calls Tryz.prog 31 #[.slice (some ⟨g1, 0, none⟩) L.length c1, .slice (some ⟨g2, 0, none⟩) L.length c2, .int .i64 0] w fun e w' => e = .returned (.bool true) ∧ Kept [] w w' := by
  have hg1 := lt_of_get h1
  have hg2 := lt_of_get h2
  go_enter Tryz.func31, Tryz.ntmps31
  go_wp2
  go_loopg [7, 8] L.length (fun g i _ wr => ∃ k : Nat, k ≤ L.length ∧ g = L.length - k ∧ i = .int .i64 k ∧ Kept [] w wr)
  case atStart => exact ⟨0, by omega, by omega, rfl, Kept.refl _ _⟩
  case round =>
    obtain ⟨k, hk, hg, rfl, hK⟩ := hrel
    by_cases hlt : k < L.length
    · obtain ⟨a0, a1, a2, a3, a4, a5⟩ := rw_at (hK.get h1 (by simp)) x1 k hlt
      obtain ⟨b0, b1, b2, b3, b4, b5⟩ := rw_at (hK.get h2 (by simp)) x2 k hlt
      have hr := hl L[k] (List.getElem_mem hlt)
      have hs := hK.size
      generalize L[k] = r at *
      obtain ⟨la, ve, wy, ⟨fi, li, co⟩⟩ := r
      simp only [LnOk] at a0 a1 a2 a3 a4 a5 b0 b1 b2 b3 b4 b5 hr
      go_upto_region 6 with fail
      go_region_with (go_at_call 38; refine (sameRow_any la fi ve wy li co _ hr).mono ?_; rintro e w2 ⟨rfl, hk2⟩)
      all_goals
        have hK2 := hK.trans ((Kept.refl [] wr).drew.trans hk2)
        go_wp2
        go_roundg (L.length - (k + 1))
        case measure => omega
        case rel => exact ⟨k + 1, by omega, rfl, by go_num, hK2⟩
    · go_wp2
      go_ret
      exact ⟨rfl, hK⟩

theorem sameRows_nil (a1 a2 : Option Addr) (c1 c2 : Nat) (w : World) :
    Calls Tryz.prog 31 #[.slice a1 0 c1, .slice a2 0 c2, .int .i64 0] w fun e w' => e = .returned (.bool true) ∧ Kept [] w w' := by
  go_enter Tryz.func31, Tryz.ntmps31
  go_wp2
  refine wp_loop_rounds 1 ?_
  rw [rounds_succ]
  go_wp2
  go_ret
  exact ⟨rfl, Kept.refl _ _⟩

/-- Rows that were told: nil, or an array of their own, without spare room. -/
def rowsSl : Option Nat → Nat → Value
  | none, _ => .slice none 0 0
  | some g, n => .slice (some ⟨g, 0, none⟩) n n
def RowsAt (w : World) : Option Nat → List Rw → Prop
  | none, L => L = []
  | some g, L => 0 < L.length ∧ w.heap[g]? = some (.cells (rwsV L).toArray 71 (0, 0))
theorem RowsAt.kept {w w' : World} {o : Option Nat} {L : List Rw} {S : List Nat} (h : RowsAt w o L) (k : Kept S w w') (hS : ∀ g, o = some g → g ∉ S) : RowsAt w' o L := by
  cases o with
  | none => exact h
  | some g => exact ⟨h.1, k.get h.2 (hS g rfl)⟩
theorem RowsAt.still {w w' : World} {o : Option Nat} {L : List Rw} (h : RowsAt w o L) (k : Kept [] w w') : RowsAt w' o L := h.kept k (by simp)
theorem RowsAt.lt {w : World} {o : Option Nat} {L : List Rw} (h : RowsAt w o L) (g : Nat) (e : o = some g) : g < w.heap.size := by
  subst e; exact lt_of_get h.2
/-- Rows that can be told. -/
structure RwsOk (L : List Rw) : Prop where
  len : L.length ≤ 100000
  line : ∀ r ∈ L, LnOk r.at_

theorem sameRows_any (o1 o2 : Option Nat) (L : List Rw) (w : World) (h1 : RowsAt w o1 L) (h2 : RowsAt w o2 L) (ok : RwsOk L) :
    Calls Tryz.prog 31 #[rowsSl o1 L.length, rowsSl o2 L.length, .int .i64 0] w fun e w' => e = .returned (.bool true) ∧ Kept [] w w' := by
  cases o1 with
  | none =>
    have hn : L = [] := h1
    subst hn
    cases o2 with
    | none => exact sameRows_nil _ _ _ _ _
    | some g => exact absurd h2.1 (by simp)
  | some g1 =>
    cases o2 with
    | none => have hn : L = [] := h2
              subst hn
              exact absurd h1.1 (by simp)
    | some g2 => exact sameRows_some g1 g2 _ _ L w _ _ _ _ h1.2 h2.2 (fun j v h => by simpa using h) (fun j v h => by simpa using h) ok.len ok.line

set_option maxHeartbeats 1000000 in
theorem begins_any (o1 o2 : Option Nat) (L M : List Rw) (w : World) (h1 : RowsAt w o1 L) (h2 : RowsAt w o2 (L ++ M)) (ok : RwsOk (L ++ M)) :
    Calls Tryz.prog 27 #[rowsSl o1 L.length, rowsSl o2 (L ++ M).length] w fun e w' => e = .returned (.bool true) ∧ Kept [] w w' := by
  have hlen := ok.len
  have hml : (L ++ M).length = L.length + M.length := List.length_append
  cases o1 with
  | none =>
    have hn : L = [] := h1
    subst hn
    cases o2 with
    | none =>
      go_enter Tryz.func27, Tryz.ntmps27
      unfold rowsSl
      go_wp2_with fail
      refine (sameRows_nil _ _ _ _ _).mono ?_
      rintro e w1 ⟨rfl, hk⟩
      go_wp2
      go_ret
      exact ⟨rfl, hk⟩
    | some g2 =>
      go_enter Tryz.func27, Tryz.ntmps27
      unfold rowsSl
      simp only [List.nil_append] at hlen ⊢
      generalize M.length = n at *
      go_wp2_with fail
      refine (sameRows_nil _ _ _ _ _).mono ?_
      rintro e w1 ⟨rfl, hk⟩
      go_wp2
      go_ret
      exact ⟨rfl, hk⟩
  | some g1 =>
    cases o2 with
    | none => have hn : L ++ M = [] := h2
              have : L.length = 0 := by rw [(List.append_eq_nil_iff.1 hn).1]; rfl
              have := h1.1
              omega
    | some g2 =>
      have SR := fun c1 c2 => sameRows_some g1 g2 c1 c2 L w _ _ _ _ h1.2 h2.2 (fun j v h => by simpa using h) (fun j v hj => by
        have hl := (List.getElem?_eq_some_iff.1 hj).1
        unfold rwsV at hj hl ⊢
        rw [List.flatMap_append]
        simp only [List.getElem?_toArray]
        rw [List.getElem?_append_left hl]; exact hj) (by omega) (fun r hr => ok.line r (List.mem_append_left _ hr))
      have HSR := (show Hid _ from SR)
      have hpos := h1.1
      clear SR ok
      rw [hml] at hlen ⊢
      generalize L.length = n at *
      generalize M.length = m at *
      go_enter Tryz.func27, Tryz.ntmps27
      unfold rowsSl
      go_wp2_with fail
      refine (HSR.out _ _).mono ?_
      rintro e w1 ⟨rfl, hk⟩
      go_wp2
      go_ret
      exact ⟨rfl, hk⟩

end Go.Proofs.YtkancbaldeeijaaGreat
