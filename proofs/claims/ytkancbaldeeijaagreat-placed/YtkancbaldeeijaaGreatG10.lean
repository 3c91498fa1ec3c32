/- Our texts: Pure3, Pure4, Pure5, PuE. -/
import Derived.Test.YtkancbaldeeijaaGreatG09
/- Texts: places, inclusions. No walk. -/
namespace Go.Proofs.YtkancbaldeeijaaGreat
open Go.RowKit

/-- Is the word that begins an inclusion somewhere in s? -/
def incAt (s : ByteArray) (i : Nat) : Bool := (s.extract i (i + 2)).toList == [36, 91]
def holdsF (s : ByteArray) : Bool := (List.range s.size).any (fun i => decide (i + 2 ≤ s.size) && incAt s i)

theorem byteAt_append_left (a b : ByteArray) (i : Nat) (h : i < a.size) : byteAt (a ++ b) i = byteAt a i := by
  have h2 : i < (a ++ b).size := by rw [ByteArray.size_append]; omega
  rw [byteAt_of _ _ h2, byteAt_of _ _ h, ByteArray.getElem_append_left h]
theorem byteAt_append_right (a b : ByteArray) (i : Nat) (h : i < b.size) : byteAt (a ++ b) (a.size + i) = byteAt b i := by
  have h2 : a.size + i < (a ++ b).size := by rw [ByteArray.size_append]; omega
  rw [byteAt_of _ _ h2, byteAt_of _ _ h, ByteArray.getElem_append_right (by omega)]
  simp

theorem lf_size : (⟨#[10]⟩ : ByteArray).size = 1 := rfl
theorem pre_of (T c : ByteArray) : Pre T (T ++ ⟨#[10]⟩ ++ c) := by
  have s1 : (T ++ ⟨#[10]⟩).size = T.size + 1 := by rw [ByteArray.size_append, lf_size]
  refine ⟨by rw [ByteArray.size_append, s1]; omega, fun i hi => ?_, ?_⟩
  · rw [byteAt_append_left _ _ _ (by omega), byteAt_append_left _ _ _ hi]
  · rw [byteAt_append_left _ _ _ (by omega)]
    have := byteAt_append_right T ⟨#[10]⟩ 0 (by rw [lf_size]; omega)
    rw [Nat.add_zero] at this
    rw [this]; decide +kernel
theorem pre_right (T c : ByteArray) (i : Nat) (h : i < c.size) : byteAt (T ++ ⟨#[10]⟩ ++ c) (T.size + 1 + i) = byteAt c i := by
  have s1 : (T ++ ⟨#[10]⟩).size = T.size + 1 := by rw [ByteArray.size_append, lf_size]
  have := byteAt_append_right (T ++ ⟨#[10]⟩) c i h
  rw [s1] at this; exact this

theorem extract_two (s : ByteArray) (i : Nat) (h : i + 2 ≤ s.size) : (s.extract i (i + 2)).toList = [s[i], s[i + 1]] := by
  rw [ByteArray.toList_eq]
  have h1 : i + 2 ≤ s.data.toList.length := h
  have e : (s.extract i (i + 2)).data.toList = (s.data.toList.drop i).take 2 := by
    simp [ByteArray.data_extract, Array.toList_extract]
  rw [e, List.drop_eq_getElem_cons (by omega), List.drop_eq_getElem_cons (by omega)]
  simp [ByteArray.getElem_eq_getElem_data]
theorem incAt_iff (s : ByteArray) (i : Nat) (h : i + 2 ≤ s.size) : incAt s i = true ↔ byteAt s i = 36 ∧ byteAt s (i + 1) = 91 := by
  unfold incAt
  rw [extract_two s i h, byteAt_of s i (by omega), byteAt_of s (i + 1) (by omega)]
  simp only [beq_iff_eq, List.cons.injEq, and_true]
  constructor
  · rintro ⟨a, b⟩; rw [a, b]; exact ⟨rfl, rfl⟩
  · rintro ⟨a, b⟩
    exact ⟨UInt8.toNat_inj.1 (by show _ = 36; omega), UInt8.toNat_inj.1 (by show _ = 91; omega)⟩
theorem holds_iff (s : ByteArray) : holdsF s = false ↔ ∀ i, i + 2 ≤ s.size → ¬ (byteAt s i = 36 ∧ byteAt s (i + 1) = 91) := by
  constructor
  · intro h i hi hb
    have : holdsF s = true := any_yes i (by omega) (by simp [hi, (incAt_iff s i hi).2 hb])
    rw [h] at this; cases this
  · intro h
    refine any_no (fun i hi => ?_)
    by_cases h2 : i + 2 ≤ s.size
    · cases hc : incAt s i with
      | true => exact absurd ((incAt_iff s i h2).1 hc) (h i h2)
      | false => simp
    · simp [h2]

theorem holds_more (T c : ByteArray) (h1 : holdsF T = false) (h2 : holdsF c = false) : holdsF (T ++ ⟨#[10]⟩ ++ c) = false := by
  have p := pre_of T c
  have sz : (T ++ ⟨#[10]⟩ ++ c).size = T.size + 1 + c.size := by rw [ByteArray.size_append, ByteArray.size_append, lf_size]
  rw [holds_iff] at h1 h2 ⊢
  rintro i hi ⟨ha, hb⟩
  rcases Nat.lt_or_ge (i + 1) T.size with hl | hl
  · exact h1 i (by omega) ⟨by rw [← p.same i (by omega)]; exact ha, by rw [← p.same (i + 1) hl]; exact hb⟩
  · rcases Nat.lt_or_ge i T.size with hl2 | hl2
    · have : i + 1 = T.size := by omega
      rw [this, p.lf] at hb; omega
    · rcases Nat.lt_or_ge T.size i with hl3 | hl3
      · obtain ⟨j, rfl⟩ : ∃ j, i = T.size + 1 + j := ⟨i - (T.size + 1), by omega⟩
        rw [pre_right T c j (by omega)] at ha
        rw [show T.size + 1 + j + 1 = T.size + 1 + (j + 1) by omega, pre_right T c (j + 1) (by omega)] at hb
        exact h2 j (by omega) ⟨ha, hb⟩
      · have : i = T.size := by omega
        rw [this, p.lf] at ha; omega

/-- A word is a cut of the text. -/
theorem nextF_cut (d : ByteArray) (k : Nat) (hk : k ≤ d.size) (h : isWordF (nextF d k).1 = true) : ∃ a z, z ≤ d.size ∧ (nextF d k).1.text = d.extract a z := by
  unfold nextF at h ⊢
  generalize d.size - k + 1 = f at h ⊢
  induction f generalizing k with
  | zero => simp [nextTo, isWordF] at h
  | succ f ih =>
    have rl := runF_le d k hk
    have cl := commentF_le d (runF d k).2 rl.2.1
    rw [nextTo] at h ⊢
    split at h
    · next h1 =>
      rw [if_pos h1]
      split at h
      · next h2 => rw [if_pos h2]; exact ih _ cl.2 h
      · next h2 => exact absurd h h2
    · next h1 =>
      rw [if_neg h1]
      rcases runF_cases d k hk with ⟨z, _, _, _, he⟩ | ⟨_, he⟩ | ⟨z, _, hz2, _, _, he⟩
      · rw [he] at h; simp [isWordF] at h
      · rw [he] at h; simp [isWordF] at h
      · rw [he]; exact ⟨_, z, hz2, rfl⟩

theorem noInc_of (T : ByteArray) (h : holdsF T = false) : NoInc T := by
  intro k hk hw
  obtain ⟨a, z, hz, ht⟩ := nextF_cut T k hk hw
  rw [ht]
  cases hc : ((T.extract a z).toList == [36, 91]) with
  | false => rfl
  | true =>
    exfalso
    have hl : (T.extract a z).toList = [36, 91] := by simpa using hc
    have hlen : (T.extract a z).toList.length = 2 := by rw [hl]; rfl
    have hsz : (T.extract a z).size = 2 := by rw [ByteArray.toList_eq] at hlen; exact hlen
    have e : z = a + 2 := by simp at hsz; omega
    subst e
    have : incAt T a = true := by unfold incAt; exact hc
    exact (holds_iff T).1 h a hz ((incAt_iff T a hz).1 this)

def mName : ByteArray := ⟨#[109]⟩
/-- What is said of the file m with this text, alone. -/
def rdM (T : ByteArray) : (Int × Nat) × Db := readF ⟨#[109]⟩ T 0 emptyDb
/-- A text that is well-formed, without inclusions, and fits. -/
structure Fine (T : ByteArray) : Prop where
  size : T.size ≤ 1024
  ok : (rdM T).1.1 = 0
  inc : holdsF T = false
theorem fine_empty : Fine ⟨#[]⟩ := ⟨by decide, by decide +kernel, by decide +kernel⟩
theorem more_line (T c : ByteArray) (hT : Fine T) (hne : (rdM (T ++ ⟨#[10]⟩ ++ c)).1.1 ≠ 0) : lineAt T T.size + 1 ≤ lineAt (T ++ ⟨#[10]⟩ ++ c) (rdM (T ++ ⟨#[10]⟩ ++ c)).1.2 := by
  have pr := pre_of T c
  have he := (read_pre pr ⟨#[109]⟩ 0 emptyDb (Nat.zero_le _) hT.ok).2
  unfold rdM at hne ⊢
  rw [he] at hne ⊢
  have hz : T.size + 1 ≤ (T ++ ⟨#[10]⟩ ++ c).size := pr.lt
  have hp := readF_pos ⟨#[109]⟩ (T ++ ⟨#[10]⟩ ++ c) (T.size + 1) _ hz hne
  have m := line_mono (T ++ ⟨#[10]⟩ ++ c) (T.size + 1) _ hp.1
  have l1 : lineAt (T ++ ⟨#[10]⟩ ++ c) (T.size + 1) = lineAt T T.size + 1 := by
    rw [lineAt, pr.lf, (line_pre pr T.size (Nat.le_refl _)).1]; simp
  omega

end Go.Proofs.YtkancbaldeeijaaGreat

/- Texts: a fault that is not at the end stays the fault. No walk. -/
namespace Go.Proofs.YtkancbaldeeijaaGreat
open Go.RowKit

theorem read_stay {T U : ByteArray} (h : Pre T U) (nm : ByteArray) (k : Nat) (d : Db) (r : Int) (p : Nat) (hk : k ≤ T.size) (hr : (readF nm T k d).1 = (r, p)) (h0 : r ≠ 0) (h7 : r ≠ 7) (h3 : r ≠ 3) : (readF nm U k d).1 = (r, p) := by
  have hlt := h.lt
  suffices H : ∀ n k d, k ≤ T.size → T.size - k ≤ n → (readF nm T k d).1 = (r, p) → (readF nm U k d).1 = (r, p) from H _ k d hk (Nat.le_refl _) hr
  clear hk hr k d
  intro n
  induction n with
  | zero =>
    intro k d hk hn hr
    have e : k = T.size := by omega
    subst e
    have e1 : runF T T.size = (⟨⟨#[]⟩, 0, true, T.size⟩, T.size) := runF_no T T.size (Nat.le_refl _) (Nat.le_refl _)
    have hn' : nextF T T.size = runF T T.size := next_plain T _ (Or.inl (by rw [e1]; rfl))
    have hw : isWordF (nextF T T.size).1 = false := by rw [hn', e1]; rfl
    have hf : (nextF T T.size).1.fin = true := by rw [hn', e1]
    cases ho : openF d with
    | true => rw [read_open nm T _ d hw hf ho] at hr; exact absurd (Prod.mk.inj hr).1.symm h7
    | false => rw [read_end nm T _ d hw hf ho] at hr; exact absurd (Prod.mk.inj hr).1.symm h0
  | succ n ih =>
    intro k d hk hn hr
    have nl := nextF_le T k hk
    cases hw : isWordF (nextF T k).1 with
    | true =>
      have np := next_pre h k hk (by rw [isWordF_eq hw]; simp)
      have hf : (nextF T k).1.fin = false := by rw [isWordF_eq hw]
      have en := np.1 hf
      have nl2 := nl.2.2 hw
      have ep := plAt_pre h nm (nextF T k).1.pos (nextF_pos T k hk).2
      cases ht : ((takeF d (nextF T k).1.text (plAt nm T (nextF T k).1.pos)).1 == 0) with
      | true =>
        rw [read_on nm T k d hk hw ht] at hr
        rw [read_on nm U k d (by omega) (by rw [en]; exact hw) (by rw [en, ep]; exact ht), en, ep]
        exact ih _ _ nl.2.1 (by omega) hr
      | false =>
        rw [read_rule nm T k d hw ht] at hr
        rw [read_rule nm U k d (by rw [en]; exact hw) (by rw [en, ep]; exact ht), en, ep]
        exact hr
    | false =>
      cases hf : (nextF T k).1.fin with
      | true =>
        cases ho : openF d with
        | true => rw [read_open nm T k d hw hf ho] at hr; exact absurd (Prod.mk.inj hr).1.symm h7
        | false => rw [read_end nm T k d hw hf ho] at hr; exact absurd (Prod.mk.inj hr).1.symm h0
      | false =>
        rw [read_bad nm T k d hw hf] at hr
        have en := (next_pre h k hk (by rw [(Prod.mk.inj hr).1]; exact h3)).1 hf
        rw [read_bad nm U k d (by rw [en]; exact hw) (by rw [en]; exact hf), en]
        exact hr

theorem holds_parts (a b : ByteArray) (h : holdsF (a ++ b) = false) : holdsF a = false ∧ holdsF b = false := by
  have sz : (a ++ b).size = a.size + b.size := ByteArray.size_append
  rw [holds_iff] at h
  constructor
  · rw [holds_iff]
    rintro i hi ⟨h1, h2⟩
    exact h i (by omega) ⟨by rw [byteAt_append_left _ _ _ (by omega)]; exact h1, by rw [byteAt_append_left _ _ _ (by omega)]; exact h2⟩
  · rw [holds_iff]
    rintro i hi ⟨h1, h2⟩
    exact h (a.size + i) (by omega) ⟨by rw [byteAt_append_right _ _ _ (by omega)]; exact h1, by rw [show a.size + i + 1 = a.size + (i + 1) by omega, byteAt_append_right _ _ _ (by omega)]; exact h2⟩

/-- All that the walk of 'stay' is told. -/
theorem stay_texts (t b : ByteArray) (h0 : ((rdM t).1.1 == 0) = false) (h7 : ((rdM t).1.1 != 7) = true) (h3 : ((rdM t).1.1 != 3) = true) :
    (rdM (t ++ ⟨#[10]⟩ ++ b)).1 = (rdM t).1 ∧ lineAt (t ++ ⟨#[10]⟩ ++ b) (rdM t).1.2 = lineAt t (rdM t).1.2 ∧ colAt (t ++ ⟨#[10]⟩ ++ b) (rdM t).1.2 = colAt t (rdM t).1.2 := by
  have h0' : (rdM t).1.1 ≠ 0 := by simpa using h0
  have pr := pre_of t b
  have hp := readF_pos ⟨#[109]⟩ t 0 emptyDb (Nat.zero_le _) h0'
  have lp := line_pre pr _ hp.2
  exact ⟨read_stay pr ⟨#[109]⟩ 0 emptyDb _ _ (Nat.zero_le _) rfl h0' (by simpa using h7) (by simpa using h3), lp.1, lp.2⟩

end Go.Proofs.YtkancbaldeeijaaGreat

/- Texts: a byte 7 inside a text is told at its place. No walk. -/
namespace Go.Proofs.YtkancbaldeeijaaGreat
open Go.RowKit

/-- S has the bytes of T up to k, and there a byte 7. -/
structure Ins (T S : ByteArray) (k : Nat) : Prop where
  le : k ≤ T.size
  lt : k < S.size
  same : ∀ i, i < k → byteAt S i = byteAt T i
  bel : byteAt S k = 7

theorem blank7 : blankB 7 = false := by decide
theorem plain7 : plainB 7 = false := by decide

def badAt (k : Nat) : Item × Nat := (⟨⟨#[]⟩, 1, false, k⟩, k)

theorem skip_ins {T S : ByteArray} {k : Nat} (h : Ins T S k) (j : Nat) (hj : j ≤ k) : (skip T j < k → skip S j = skip T j) ∧ (k ≤ skip T j → skip S j = k) := by
  have hlt := h.lt
  have hle := h.le
  suffices H : ∀ n j, j ≤ k → k - j = n → (skip T j < k → skip S j = skip T j) ∧ (k ≤ skip T j → skip S j = k) from H _ j hj rfl
  intro n
  induction n with
  | zero =>
    intro j hj hn
    have e : j = k := by omega
    subst e
    have e1 : skip S j = j := skip_off S j (by rw [h.bel, blank7]; simp)
    have e2 := (skip_le T j hle).1
    exact ⟨fun h1 => by omega, fun _ => e1⟩
  | succ n ih =>
    intro j hj hn
    have hjk : j < k := by omega
    by_cases hb : blankB (byteAt T j) = true
    · rw [skip_on T j (by omega) hb, skip_on S j (by omega) (by rw [h.same j hjk]; exact hb)]
      exact ih (j + 1) (by omega) (by omega)
    · rw [skip_off T j (fun hh => hb hh.2), skip_off S j (fun hh => hb (by rw [← h.same j hjk]; exact hh.2))]
      exact ⟨fun _ => rfl, fun h1 => by omega⟩

theorem word_ins {T S : ByteArray} {k : Nat} (h : Ins T S k) (j : Nat) (hj : j ≤ k) : (wordEnd T j < k → wordEnd S j = wordEnd T j) ∧ (k ≤ wordEnd T j → wordEnd S j = k) := by
  have hlt := h.lt
  have hle := h.le
  suffices H : ∀ n j, j ≤ k → k - j = n → (wordEnd T j < k → wordEnd S j = wordEnd T j) ∧ (k ≤ wordEnd T j → wordEnd S j = k) from H _ j hj rfl
  intro n
  induction n with
  | zero =>
    intro j hj hn
    have e : j = k := by omega
    subst e
    have e1 : wordEnd S j = j := word_off S j (by rw [h.bel, plain7]; simp)
    have e2 := (wordEnd_le T j hle).1
    exact ⟨fun h1 => by omega, fun _ => e1⟩
  | succ n ih =>
    intro j hj hn
    have hjk : j < k := by omega
    by_cases hb : blankB (byteAt T j) = false ∧ plainB (byteAt T j) = true
    · rw [word_on T j (by omega) hb.1 hb.2, word_on S j (by omega) (by rw [h.same j hjk]; exact hb.1) (by rw [h.same j hjk]; exact hb.2)]
      exact ih (j + 1) (by omega) (by omega)
    · rw [word_off T j (fun hh => hb hh.2), word_off S j (fun hh => hb (by rw [← h.same j hjk]; exact hh.2))]
      exact ⟨fun _ => rfl, fun h1 => by omega⟩

theorem extract_ins {T S : ByteArray} {k : Nat} (h : Ins T S k) (a z : Nat) (hz : z ≤ k) : S.extract a z = T.extract a z := by
  have hlt := h.lt
  have hle := h.le
  apply ByteArray.ext
  apply Array.ext
  · simp; omega
  · intro i h1 h2
    have hi : a + i < k := by simp at h2; omega
    have := h.same (a + i) hi
    rw [byteAt_of S _ (by omega), byteAt_of T _ (by omega)] at this
    have e : (S[a + i]'(by omega)).toNat = (T[a + i]'(by omega)).toNat := by omega
    have e2 : (S[a + i]'(by omega)) = (T[a + i]'(by omega)) := UInt8.toNat_inj.1 e
    simpa [ByteArray.getElem_eq_getElem_data] using e2

theorem run_bad {T S : ByteArray} {k : Nat} (h : Ins T S k) (a : Nat) (j : Nat) (hs : skip S j = a) (hw : wordEnd S a = k) : runF S j = badAt k := by
  simp only [runF, hs, hw]
  rw [if_pos ⟨h.lt, by rw [h.bel]; exact blank7⟩]
  rfl

theorem run_ins {T S : ByteArray} {k : Nat} (h : Ins T S k) (j : Nat) (hj : j ≤ k) : (runF S j = runF T j ∧ (runF T j).2 < k) ∨ runF S j = badAt k := by
  have hlt := h.lt
  have hle := h.le
  have sp := skip_ins h j hj
  have sl := skip_le T j (by omega)
  rcases Nat.lt_or_ge (skip T j) k with ha | ha
  · have es := sp.1 ha
    have wp := word_ins h (skip T j) (by omega)
    rcases Nat.lt_or_ge (wordEnd T (skip T j)) k with hz | hz
    · have ew := wp.1 hz
      left
      rcases runF_cases T j (by omega) with ⟨z, hz1, hw, hb, he⟩ | ⟨hs, he⟩ | ⟨z, hz1, hz2, hw, hb, he⟩
      · rw [hw] at ew hz
        rw [he]
        refine ⟨?_, hz⟩
        simp only [runF, es, ew]
        rw [if_pos ⟨by omega, by rw [h.same z hz]; exact hb⟩]
      · omega
      · rw [hw] at ew hz
        rw [he]
        refine ⟨?_, hz⟩
        simp only [runF, es, ew]
        have hne : ¬ (z < S.size ∧ blankB (byteAt S z) = false) := by
          rintro ⟨_, hbz⟩
          rw [h.same z hz] at hbz; exact hb ⟨by omega, hbz⟩
        rw [if_neg hne, if_neg (by omega), extract_ins h _ _ (by omega)]
    · right; exact run_bad h (skip T j) j es (wp.2 hz)
  · right
    have es := sp.2 ha
    have ew : wordEnd S k = k := word_off S k (by rw [h.bel, plain7]; simp)
    exact run_bad h k j es ew

theorem runF_fin2 (d : ByteArray) (k : Nat) (hk : k ≤ d.size) (h : (runF d k).1.fin = true) : (runF d k).2 = d.size := by
  rcases runF_cases d k hk with ⟨z, _, _, _, he⟩ | ⟨_, he⟩ | ⟨z, _, _, _, _, he⟩
  · rw [he] at h; cases h
  · rw [he]
  · rw [he] at h; cases h

theorem comment_ins {T S : ByteArray} {k : Nat} (h : Ins T S k) (j : Nat) (hj : j ≤ k) : (commentF S j = commentF T j ∧ (commentF T j).2 < k) ∨ commentF S j = badAt k := by
  have hlt := h.lt
  have hle := h.le
  suffices H : ∀ n j, j ≤ k → k - j ≤ n → (commentF S j = commentF T j ∧ (commentF T j).2 < k) ∨ commentF S j = badAt k from H _ j hj (Nat.le_refl _)
  clear hj j
  intro n
  induction n with
  | zero =>
    intro j hj hn
    rcases run_ins h j hj with ⟨er, hz⟩ | er
    · have := runF_le T j (by omega); omega
    · right; rw [comment_bad S j (by rw [er]; rfl) (by rw [er]; rfl), er]
  | succ n ih =>
    intro j hj hn
    rcases run_ins h j hj with ⟨er, hz⟩ | er
    · have rl := runF_le T j (by omega)
      have hf : (runF T j).1.fin = false := by
        cases hf : (runF T j).1.fin with
        | false => rfl
        | true => have := runF_fin2 T j (by omega) hf; omega
      cases hw : isWordF (runF T j).1 with
      | true =>
        have rl2 := rl.2.2 hw
        cases hx : ((runF T j).1.text.toList == [36, 41]) with
        | true =>
          left
          rw [comment_close T j hw hx, comment_close S j (by rw [er]; exact hw) (by rw [er]; exact hx), er]
          exact ⟨rfl, hz⟩
        | false =>
          cases hy : bracketF (runF T j).1.text with
          | true =>
            left
            rw [comment_nest T j hw hx hy, comment_nest S j (by rw [er]; exact hw) (by rw [er]; exact hx) (by rw [er]; exact hy), er]
            exact ⟨rfl, hz⟩
          | false =>
            rw [comment_on T j (by omega) hw hx hy, comment_on S j (by omega) (by rw [er]; exact hw) (by rw [er]; exact hx) (by rw [er]; exact hy), er]
            exact ih _ (by omega) (by omega)
      | false =>
        left
        rw [comment_bad T j hw hf, comment_bad S j (by rw [er]; exact hw) (by rw [er]; exact hf), er]
        exact ⟨rfl, hz⟩
    · right; rw [comment_bad S j (by rw [er]; rfl) (by rw [er]; rfl), er]

theorem next_ins {T S : ByteArray} {k : Nat} (h : Ins T S k) (j : Nat) (hj : j ≤ k) : (nextF S j = nextF T j ∧ (nextF T j).2 < k) ∨ nextF S j = badAt k := by
  have hlt := h.lt
  have hle := h.le
  suffices H : ∀ n j, j ≤ k → k - j ≤ n → (nextF S j = nextF T j ∧ (nextF T j).2 < k) ∨ nextF S j = badAt k from H _ j hj (Nat.le_refl _)
  clear hj j
  intro n
  induction n with
  | zero =>
    intro j hj hn
    rcases run_ins h j hj with ⟨er, hz⟩ | er
    · have := runF_le T j (by omega); omega
    · right; rw [next_plain S j (Or.inl (by rw [er]; rfl)), er]
  | succ n ih =>
    intro j hj hn
    rcases run_ins h j hj with ⟨er, hz⟩ | er
    · have rl := runF_le T j (by omega)
      by_cases hc : isWordF (runF T j).1 = true ∧ ((runF T j).1.text.toList == [36, 40]) = true
      · have rl2 := rl.2.2 hc.1
        rcases comment_ins h (runF T j).2 (by omega) with ⟨ec, hcz⟩ | ec
        · have cl := commentF_le T (runF T j).2 (by omega)
          cases hcw : isWordF (commentF T (runF T j).2).1 with
          | true =>
            rw [next_on T j (by omega) hc.1 hc.2 hcw, next_on S j (by omega) (by rw [er]; exact hc.1) (by rw [er]; exact hc.2) (by rw [er, ec]; exact hcw), er, ec]
            exact ih _ (by omega) (by omega)
          | false =>
            left
            rw [next_broken T j hc.1 hc.2 hcw, next_broken S j (by rw [er]; exact hc.1) (by rw [er]; exact hc.2) (by rw [er, ec]; exact hcw), er, ec]
            exact ⟨rfl, hcz⟩
        · right
          rw [next_broken S j (by rw [er]; exact hc.1) (by rw [er]; exact hc.2) (by rw [er, ec]; rfl), er, ec]
      · have hc' : isWordF (runF T j).1 = false ∨ ((runF T j).1.text.toList == [36, 40]) = false := by
          cases h1 : isWordF (runF T j).1 with
          | false => exact Or.inl rfl
          | true =>
            cases h2 : ((runF T j).1.text.toList == [36, 40]) with
            | false => exact Or.inr rfl
            | true => exact absurd ⟨h1, h2⟩ hc
        left
        rw [next_plain T j hc', next_plain S j (by rw [er]; exact hc'), er]
        exact ⟨rfl, hz⟩
    · right; rw [next_plain S j (Or.inl (by rw [er]; rfl)), er]

theorem nextF_fin2 (d : ByteArray) (k : Nat) (hk : k ≤ d.size) (h : (nextF d k).1.fin = true) : (nextF d k).2 = d.size := by
  suffices H : ∀ n k, k ≤ d.size → d.size - k ≤ n → (nextF d k).1.fin = true → (nextF d k).2 = d.size from H _ k hk (Nat.le_refl _) h
  clear hk h k
  intro n
  induction n with
  | zero =>
    intro k hk hn h
    have := nextF_le d k hk
    omega
  | succ n ih =>
    intro k hk hn h
    have rl := runF_le d k hk
    by_cases hc : isWordF (runF d k).1 = true ∧ ((runF d k).1.text.toList == [36, 40]) = true
    · have rl2 := rl.2.2 hc.1
      have cl := commentF_le d (runF d k).2 rl.2.1
      cases hcw : isWordF (commentF d (runF d k).2).1 with
      | true =>
        rw [next_on d k hk hc.1 hc.2 hcw] at h ⊢
        exact ih _ cl.2 (by omega) h
      | false =>
        rw [next_broken d k hc.1 hc.2 hcw, commentF_fin] at h; cases h
    · have hc' : isWordF (runF d k).1 = false ∨ ((runF d k).1.text.toList == [36, 40]) = false := by
        cases h1 : isWordF (runF d k).1 with
        | false => exact Or.inl rfl
        | true =>
          cases h2 : ((runF d k).1.text.toList == [36, 40]) with
          | false => exact Or.inr rfl
          | true => exact absurd ⟨h1, h2⟩ hc
      rw [next_plain d k hc'] at h ⊢
      exact runF_fin2 d k hk h

theorem runF_pos2 (d : ByteArray) (k : Nat) (hk : k ≤ d.size) : (runF d k).1.pos ≤ (runF d k).2 := by
  have a := skip_le d k hk
  rcases runF_cases d k hk with ⟨z, _, _, _, he⟩ | ⟨_, he⟩ | ⟨z, _, _, _, _, he⟩
  · rw [he]; exact Nat.le_refl _
  · rw [he]; exact Nat.le_refl _
  · rw [he]; simp only; omega
theorem nextF_pos2 (d : ByteArray) (k : Nat) (hk : k ≤ d.size) (h : isWordF (nextF d k).1 = true) : (nextF d k).1.pos ≤ (nextF d k).2 := by
  unfold nextF at h ⊢
  generalize d.size - k + 1 = f at h ⊢
  induction f generalizing k with
  | zero => simp [nextTo, isWordF] at h
  | succ f ih =>
    have rl := runF_le d k hk
    have cl := commentF_le d (runF d k).2 rl.2.1
    rw [nextTo] at h ⊢
    split at h
    · next h1 =>
      rw [if_pos h1]
      split at h
      · next h2 => rw [if_pos h2]; exact ih _ cl.2 h
      · next h2 => exact absurd h h2
    · next h1 => rw [if_neg h1]; exact runF_pos2 d k hk
theorem line_ins {T S : ByteArray} {k : Nat} (h : Ins T S k) (p : Nat) (hp : p ≤ k) : lineAt S p = lineAt T p ∧ colAt S p = colAt T p := by
  induction p with
  | zero => exact ⟨rfl, rfl⟩
  | succ p ih =>
    have i := ih (by omega)
    rw [lineAt, lineAt, colAt, colAt, h.same p (by omega), i.1, i.2]
    exact ⟨rfl, rfl⟩
theorem plAt_ins {T S : ByteArray} {k : Nat} (h : Ins T S k) (n : ByteArray) (p : Nat) (hp : p ≤ k) : plAt n S p = plAt n T p := by
  unfold plAt; rw [(line_ins h p hp).1, (line_ins h p hp).2]

theorem read_ins {T S : ByteArray} {k : Nat} (h : Ins T S k) (nm : ByteArray) (j : Nat) (d : Db) (hj : j ≤ k) (h0 : (readF nm T j d).1.1 = 0) : (readF nm S j d).1 = (1, k) := by
  have hlt := h.lt
  have hle := h.le
  suffices H : ∀ n j d, j ≤ k → k - j ≤ n → (readF nm T j d).1.1 = 0 → (readF nm S j d).1 = (1, k) from H _ j d hj (Nat.le_refl _) h0
  clear hj j d h0
  intro n
  induction n with
  | zero =>
    intro j d hj hn h0
    rcases next_ins h j hj with ⟨_, hz⟩ | en
    · have := nextF_le T j (by omega); omega
    · rw [read_bad nm S j d (by rw [en]; rfl) (by rw [en]; rfl), en]; rfl
  | succ n ih =>
    intro j d hj hn h0
    rcases next_ins h j hj with ⟨en, hz⟩ | en
    · have nl := nextF_le T j (by omega)
      cases hw : isWordF (nextF T j).1 with
      | true =>
        have nl2 := nl.2.2 hw
        have ep := plAt_ins h nm (nextF T j).1.pos (by have := nextF_pos2 T j (by omega) hw; omega)
        cases ht : ((takeF d (nextF T j).1.text (plAt nm T (nextF T j).1.pos)).1 == 0) with
        | true =>
          rw [read_on nm T j d (by omega) hw ht] at h0
          rw [read_on nm S j d (by omega) (by rw [en]; exact hw) (by rw [en, ep]; exact ht), en, ep]
          exact ih _ _ (by omega) (by omega) h0
        | false =>
          rw [read_rule nm T j d hw ht] at h0
          simp only at h0
          rw [h0] at ht; simp at ht
      | false =>
        cases hf : (nextF T j).1.fin with
        | true => have := nextF_fin2 T j (by omega) hf; omega
        | false =>
          rw [read_bad nm T j d hw hf] at h0
          have := isWordF_not hw hf
          simp only at h0
          rw [h0] at this; simp at this
    · rw [read_bad nm S j d (by rw [en]; rfl) (by rw [en]; rfl), en]; rfl

end Go.Proofs.YtkancbaldeeijaaGreat

/- What follows a closed text leaves the record ahead as it is. No walk. -/
namespace Go.Proofs.YtkancbaldeeijaaGreat
open Go.RowKit

theorem take_proof (d : Db) (x : ByteArray) (p : Pl) : (takeF d x p).2.proof = d.proof ∨ (takeF d x p).2.proof = [] ∨ (takeF d x p).2.proof = d.proof ++ [(x, p)] := by
  unfold takeF
  split
  · left
    unfold takeFirstF
    split
    · rfl
    · split
      · split
        · rfl
        · unfold endBothF; split <;> rfl
      · split
        · split <;> rfl
        · split
          · rfl
          · split
            · rfl
            · split
              · rfl
              · unfold takeLabelF
                repeat' split
                all_goals rfl
  · split
    · left; unfold takeKeywordF
      repeat' split
      all_goals rfl
    · split
      · unfold endF
        split
        · left; rfl
        · split
          · left; rfl
          · right; left; rfl
      · split
        · left; unfold beginProofF; split <;> rfl
        · split
          · left; rfl
          · split
            · right; right; rfl
            · split
              · left; rfl
              · left; rfl
theorem take_sts (d : Db) (x : ByteArray) (p : Pl) : (takeF d x p).2.sts = d.sts ∨ (∃ y ∈ d.rbl, (takeF d x p).2.sts = endSts d.sts y) ∨ ((takeF d x p).2.sts = d.sts ++ [⟨d.kind, d.label, d.symbols, d.proof, p, 0⟩] ∧ 0 < d.symbols.length) := by
  unfold takeF
  split
  · unfold takeFirstF
    split
    · left; rfl
    · split
      · split
        · left; rfl
        · unfold endBothF
          split
          · left; rfl
          · next y hy => right; left; exact ⟨y, List.mem_of_getLast? hy, rfl⟩
      · split
        · split <;> (left; rfl)
        · split
          · left; rfl
          · split
            · left; rfl
            · split
              · left; rfl
              · left; unfold takeLabelF
                repeat' split
                all_goals rfl
  · split
    · left; unfold takeKeywordF
      repeat' split
      all_goals rfl
    · split
      · unfold endF
        split
        · left; rfl
        · next hl =>
          have hpos : 0 < d.symbols.length := by
            unfold leastF at hl
            split at hl <;> omega
          split
          · left; rfl
          · unfold declareF
            split
            · left; rfl
            · split
              · left; rfl
              · right; right
                refine ⟨?_, hpos⟩
                unfold typeIt
                split <;> rfl
      · split
        · left; unfold beginProofF; split <;> rfl
        · split
          · left; rfl
          · split
            · left; rfl
            · split
              · left; rfl
              · left; rfl

theorem take_rbl (d : Db) (x : ByteArray) (p : Pl) : (takeF d x p).2.rbl = d.rbl ∨ (takeF d x p).2.rbl = d.rbl.dropLast ∨ (takeF d x p).2.rbl = d.rbl ++ [d.sts.length] := by
  unfold takeF
  split
  · unfold takeFirstF
    split
    · right; right; rfl
    · split
      · split
        · left; rfl
        · unfold endBothF
          split
          · left; rfl
          · right; left; rfl
      · split
        · split <;> (left; rfl)
        · split
          · left; rfl
          · split
            · left; rfl
            · split
              · left; rfl
              · left; unfold takeLabelF
                repeat' split
                all_goals rfl
  · left
    split
    · unfold takeKeywordF
      repeat' split
      all_goals rfl
    · split
      · unfold endF
        split
        · rfl
        · split
          · rfl
          · unfold declareF
            split
            · rfl
            · split
              · rfl
              · unfold typeIt; split <;> rfl
      · split
        · unfold beginProofF; split <;> rfl
        · split
          · rfl
          · split
            · rfl
            · split <;> rfl

/-- The record begins with S, and no open block reaches into it. -/
structure Ext (S : List St) (d : Db) : Prop where
  pre : ∃ m, d.sts = S ++ m
  rbl : ∀ y ∈ d.rbl, S.length ≤ y
theorem endSts_ext (S m : List St) (y : Nat) (h : S.length ≤ y) : ∃ m', endSts (S ++ m) y = S ++ m' := by
  refine ⟨(endSts (S ++ m) y).drop S.length, ?_⟩
  have e : (endSts (S ++ m) y).take S.length = S := by
    apply List.ext_getElem?
    intro i
    rw [List.getElem?_take]
    split
    · next hi =>
      unfold endSts endTo
      rw [List.getElem?_mapIdx, List.getElem?_append_left hi, List.getElem?_eq_getElem hi]
      rw [Option.map_some, if_neg (by omega)]
    · rw [List.getElem?_eq_none]; omega
  conv => lhs; rw [← List.take_append_drop S.length (endSts (S ++ m) y), e]
theorem Ext.take {S : List St} {d : Db} (h : Ext S d) (x : ByteArray) (p : Pl) : Ext S (takeF d x p).2 := by
  obtain ⟨m, hm⟩ := h.pre
  refine ⟨?_, ?_⟩
  · rcases take_sts d x p with e | ⟨y, hy, e⟩ | ⟨e, _⟩
    · exact ⟨m, by rw [e, hm]⟩
    · rw [e, hm]; exact endSts_ext S m y (h.rbl y hy)
    · exact ⟨m ++ [_], by rw [e, hm, List.append_assoc]⟩
  · rcases take_rbl d x p with e | e | e
    · rw [e]; exact h.rbl
    · rw [e]; intro y hy; exact h.rbl y (List.dropLast_subset _ hy)
    · rw [e]
      intro y hy
      rcases List.mem_append.1 hy with hy | hy
      · exact h.rbl y hy
      · rw [List.mem_singleton.1 hy, hm, List.length_append]; omega
theorem readTo_ext {S : List St} (n s : ByteArray) (f : Nat) : ∀ k d, Ext S d → Ext S (readTo n s f k d).2 := by
  induction f with
  | zero => intro k d h; exact h
  | succ f ih =>
    intro k d h
    rw [readTo]
    split
    · split
      · exact ih _ _ (h.take _ _)
      · exact h.take _ _
    · split
      · split <;> exact h
      · exact h
theorem readF_ext {S : List St} (n s : ByteArray) (k : Nat) (d : Db) (h : Ext S d) : Ext S (readF n s k d).2 := readTo_ext n s _ k d h
theorem readTo_bnd (n s : ByteArray) (f : Nat) : ∀ k d, (∃ m, Bnd d m) → ∃ m, Bnd (readTo n s f k d).2 m := by
  induction f with
  | zero => intro k d h; exact h
  | succ f ih =>
    intro k d h
    have ht := fun x p => (show ∃ m, Bnd (takeF d x p).2 m from h.elim fun m hm => ⟨m + 1, hm.take x p⟩)
    rw [readTo]
    split
    · split
      · exact ih _ _ (ht _ _)
      · exact ht _ _
    · split
      · split <;> exact h
      · exact h
theorem Ext.begin {d : Db} {m : Nat} (h : Bnd d m) (ho : openF d = false) : Ext d.sts d := by
  refine ⟨⟨[], by simp⟩, fun y hy => ?_⟩
  have hs := h.same
  have hb : d.blocks.length = 0 := by
    unfold openF at ho
    simp only [Bool.or_eq_false_iff, decide_eq_false_iff_not] at ho
    omega
  rw [hb] at hs
  rw [List.eq_nil_of_length_eq_zero hs] at hy
  cases hy
theorem more_sts (T c : ByteArray) (hT : Fine T) : ∃ m, (rdM (T ++ ⟨#[10]⟩ ++ c)).2.sts = (rdM T).2.sts ++ m := by
  have he := read_pre (pre_of T c) ⟨#[109]⟩ 0 emptyDb (Nat.zero_le _) hT.ok
  obtain ⟨m, hm⟩ := readTo_bnd ⟨#[109]⟩ T (T.size - 0 + 1) 0 emptyDb ⟨0, Bnd.empty⟩
  have x := readF_ext ⟨#[109]⟩ (T ++ ⟨#[10]⟩ ++ c) (T.size + 1) _ (Ext.begin (d := (readF ⟨#[109]⟩ T 0 emptyDb).2) hm he.1)
  rw [← he.2] at x
  exact x.pre

end Go.Proofs.YtkancbaldeeijaaGreat
