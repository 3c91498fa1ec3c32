import Derived.Test.YtcipkfhpcbddiaaGreatG06
import Derived.Test.YtcipkfhpcbddiaaGreatG15
import Derived.Test.YtcipkfhpcbddiaaGreatQNam1
import Derived.Test.YtcipkfhpcbddiaaGreatQPuT
import Derived.Test.YtcipkfhpcbddiaaGreatQFnd
/- A name that is in use, behind a closed text; the labels of rows. No walk. -/
namespace Go.Proofs.YtcipkfhpcbddiaaGreat
open Go.RowKit

theorem bytes_eq {a b : ByteArray} (h : (a.toList == b.toList) = true) : a = b := by
  have h' : a.toList = b.toList := by simpa using h
  apply ByteArray.ext
  apply Array.toList_inj.1
  rw [← ByteArray.toList_eq, ← ByteArray.toList_eq]; exact h'
theorem Wd.noDollar {x : ByteArray} (h : Wd x) : dollarF x = false := by
  unfold dollarF
  rw [List.any_eq_false]
  intro i hi
  have := (h.2 i (List.mem_range.1 hi)).2
  simp [this]
theorem Wd.notKey {x : ByteArray} (h : Wd x) (c : UInt8) : (x.toList == [36, c]) = false := by
  cases e : (x.toList == [36, c])
  · rfl
  · obtain ⟨h1, h2, -⟩ := two_bytes x c e
    exact absurd h2 (h.2 0 h.1).2

/-- The word at a place. -/
theorem wordEnd_at (d : ByteArray) (k z : Nat) (hk : k ≤ z) (hz : z ≤ d.size) (hw : ∀ i, k ≤ i → i < z → plainB (byteAt d i) = true) (he : z = d.size ∨ blankB (byteAt d z) = true) : wordEnd d k = z := by
  obtain ⟨n, rfl⟩ : ∃ n, z = k + n := ⟨z - k, by omega⟩
  clear hk
  induction n generalizing k with
  | zero => exact word_off d _ (fun h => by
      rcases he with e | e
      · have := h.1; omega
      · rw [Nat.add_zero] at e; rw [e] at h; simp at h)
  | succ n ih =>
    have hp := hw k (Nat.le_refl _) (by omega)
    have hb : blankB (byteAt d k) = false := by
      unfold plainB at hp
      unfold blankB
      simp only [Bool.and_eq_true, decide_eq_true_eq] at hp
      simp; omega
    rw [word_on d k (by omega) hb hp]
    have := ih (k + 1) (by omega) (fun i h1 h2 => hw i (by omega) (by omega)) (by rw [show k + 1 + n = k + (n + 1) by omega]; exact he)
    rw [this]; omega
theorem next_at (d : ByteArray) (k z : Nat) (hk : k < z) (hz : z ≤ d.size) (hw : ∀ i, k ≤ i → i < z → plainB (byteAt d i) = true) (he : z = d.size ∨ blankB (byteAt d z) = true) (hc : ((d.extract k z).toList == [36, 40]) = false) :
    nextF d k = (⟨d.extract k z, 0, false, k⟩, z) := by
  have hp := hw k (Nat.le_refl _) hk
  have hb : blankB (byteAt d k) = false := by
    unfold plainB at hp
    unfold blankB
    simp only [Bool.and_eq_true, decide_eq_true_eq] at hp
    simp; omega
  have hs : skip d k = k := skip_off d k (fun h => by rw [hb] at h; simp at h)
  have hwe := wordEnd_at d k z (by omega) hz hw he
  have hr : runF d k = (⟨d.extract k z, 0, false, k⟩, z) := runF_word d k k z hs.symm (by rw [hwe]; exact word_off d z (fun h => by
      rcases he with e | e
      · have := h.1; omega
      · rw [e] at h; simp at h)) (fun h => by
      rcases he with e | e
      · have := h.1; omega
      · rw [e] at h; simp at h) hk
  rw [next_plain d k (Or.inr (by rw [hr]; exact hc)), hr]
theorem next_skip (d : ByteArray) (k : Nat) (hk : k < d.size) (hb : blankB (byteAt d k) = true) : nextF d k = nextF d (k + 1) := by
  refine next_congr d k (k + 1) (by omega) (by omega) ?_
  unfold runF
  rw [skip_on d k hk hb]

theorem isWord_mk (t : ByteArray) (p : Nat) : isWordF ⟨t, 0, false, p⟩ = true := by simp [isWordF]
/-- The text behind T, byte by byte. -/
theorem read_U1 (T c : ByteArray) (hT : Fine T) : rdM (T ++ ⟨#[10]⟩ ++ c) = readF ⟨#[109]⟩ (T ++ ⟨#[10]⟩ ++ c) (T.size + 1) (rdM T).2 ∧ openF (rdM T).2 = false := by
  have h := read_pre (pre_of T c) ⟨#[109]⟩ 0 emptyDb (Nat.zero_le _) hT.ok
  exact ⟨h.2, h.1⟩
theorem extract_is (U x : ByteArray) (p : Nat) (hs : p + x.size ≤ U.size) (hb : ∀ i, i < x.size → byteAt U (p + i) = byteAt x i) : U.extract p (p + x.size) = x := by
  apply ByteArray.ext_getElem
  · simp only [ByteArray.size_extract]; omega
  · intro i h1 h2
    rw [ByteArray.getElem_extract]
    have hbi := hb i h2
    rw [byteAt_of _ _ (by omega), byteAt_of _ _ h2] at hbi
    exact UInt8.toNat_inj.1 (by omega)
def endB : ByteArray := ⟨#[32, 36, 46]⟩
theorem endB_size : endB.size = 3 := rfl
theorem open_zero {d : Db} (h : openF d = false) : d.kind = 0 ∧ d.blocks = [] := by
  simp only [openF, Bool.or_eq_false_iff, bne_eq_false_iff_eq, decide_eq_false_iff_not] at h
  exact ⟨h.1, List.eq_nil_of_length_eq_zero (by omega)⟩

/-- A label that is in use. -/
theorem taken_label (T x : ByteArray) (hT : Fine T) (hx : Wd x) (hl : isLabelF x = true) (ht : isTakenF (rdM T).2 x = true) : (rdM (T ++ ⟨#[10]⟩ ++ (x ++ endB))).1 = (13, T.size + 1) := by
  obtain ⟨e, ho⟩ := read_U1 T (x ++ endB) hT
  have hk := (open_zero ho).1
  have hcs : (x ++ endB).size = x.size + 3 := by rw [ByteArray.size_append, endB_size]
  have hus : (T ++ ⟨#[10]⟩ ++ (x ++ endB)).size = T.size + 1 + (x.size + 3) := by rw [ByteArray.size_append, ByteArray.size_append, lf_size, hcs]
  have hb : ∀ i, i < x.size → byteAt (T ++ ⟨#[10]⟩ ++ (x ++ endB)) (T.size + 1 + i) = byteAt x i := fun i hi => by
    rw [pre_right T _ i (by omega), byteAt_append_left _ _ i hi]
  have he : byteAt (T ++ ⟨#[10]⟩ ++ (x ++ endB)) (T.size + 1 + x.size) = 32 := by
    rw [pre_right T _ x.size (by omega)]
    have := byteAt_append_right x endB 0 (by rw [endB_size]; omega)
    rw [Nat.add_zero] at this
    rw [this]; decide +kernel
  have hex := extract_is _ x (T.size + 1) (by omega) hb
  have hn := next_at (T ++ ⟨#[10]⟩ ++ (x ++ endB)) (T.size + 1) (T.size + 1 + x.size) (by have := hx.1; omega) (by omega)
    (fun i h1 h2 => by rw [show i = T.size + 1 + (i - (T.size + 1)) by omega, hb _ (by omega)]; exact (hx.2 _ (by omega)).1) (Or.inr (by rw [he]; rfl)) (by rw [hex]; exact hx.notKey 40)
  rw [hex] at hn
  have htk : ∀ p, takeF (rdM T).2 x p = (13, (rdM T).2) := by
    intro p
    unfold takeF
    rw [if_pos (by rw [hk]; rfl)]
    unfold takeFirstF
    simp only [hx.notKey, Bool.false_eq_true, if_false, or_self]
    unfold takeLabelF
    simp [hx.noDollar, hl, ht]
  rw [e, read_rule _ _ _ _ (by rw [hn]; exact isWord_mk _ _) (by rw [hn]; simp only [htk]; rfl), hn]
  simp only [htk]
/-- A name that is in use, in $c or $v. -/
theorem taken_sym (T x : ByteArray) (b : UInt8) (hbb : b = 99 ∨ b = 118) (hT : Fine T) (hx : Wd x) (ht : hasF (rdM T).2.labels x = true ∨ hasF (rdM T).2.constants x = true) : (rdM (T ++ ⟨#[10]⟩ ++ (⟨#[36, b, 32]⟩ ++ x ++ endB))).1 = (13, T.size + 4) := by
  obtain ⟨e, ho⟩ := read_U1 T (⟨#[36, b, 32]⟩ ++ x ++ endB) hT
  obtain ⟨hk, hbl⟩ := open_zero ho
  have hnm := rdM_nm T
  have hip : (rdM T).2.inProof = false := hnm.prf (by omega)
  have hs3 : (⟨#[36, b, 32]⟩ : ByteArray).size = 3 := rfl
  have hcs : (⟨#[36, b, 32]⟩ ++ x ++ endB).size = 3 + x.size + 3 := by rw [ByteArray.size_append, ByteArray.size_append, endB_size, hs3]
  generalize hU : T ++ ⟨#[10]⟩ ++ (⟨#[36, b, 32]⟩ ++ x ++ endB) = U at e ⊢
  have hus : U.size = T.size + 1 + (3 + x.size + 3) := by rw [← hU, ByteArray.size_append, ByteArray.size_append, lf_size, hcs]
  have hb0 : ∀ i, i < 3 → byteAt U (T.size + 1 + i) = byteAt ⟨#[36, b, 32]⟩ i := fun i hi => by
    rw [← hU, pre_right T _ i (by omega), byteAt_append_left _ _ i (by rw [ByteArray.size_append, hs3]; omega), byteAt_append_left _ _ i (by rw [hs3]; omega)]
  have hb : ∀ i, i < x.size → byteAt U (T.size + 4 + i) = byteAt x i := fun i hi => by
    rw [← hU, show T.size + 4 + i = T.size + 1 + (3 + i) by omega, pre_right T _ (3 + i) (by omega), byteAt_append_left _ _ (3 + i) (by rw [ByteArray.size_append, hs3]; omega)]
    have := byteAt_append_right ⟨#[36, b, 32]⟩ x i hi
    rw [hs3] at this; exact this
  have he : byteAt U (T.size + 4 + x.size) = 32 := by
    rw [← hU, show T.size + 4 + x.size = T.size + 1 + (3 + x.size) by omega, pre_right T _ (3 + x.size) (by omega)]
    have := byteAt_append_right (⟨#[36, b, 32]⟩ ++ x) endB 0 (by rw [endB_size]; omega)
    rw [Nat.add_zero, ByteArray.size_append, hs3] at this
    rw [this]; decide +kernel
  clear hU
  have q0 : byteAt (⟨#[36, b, 32]⟩ : ByteArray) 0 = 36 := rfl
  have q1 : byteAt (⟨#[36, b, 32]⟩ : ByteArray) 1 = (b.toNat : Int) := rfl
  have q2 : byteAt (⟨#[36, b, 32]⟩ : ByteArray) 2 = 32 := rfl
  have p0 := hb0 0 (by omega)
  have p1 := hb0 1 (by omega)
  have p2 := hb0 2 (by omega)
  rw [q0, Nat.add_zero] at p0
  rw [q1] at p1
  rw [q2] at p2
  have hex1 := extract_is U ⟨#[36, b]⟩ (T.size + 1) (by have : (⟨#[36, b]⟩ : ByteArray).size = 2 := rfl; omega) (fun i hi => by
    have : i < 2 := hi
    match i, this with
    | 0, _ => rw [Nat.add_zero, p0]; rfl
    | 1, _ => rw [p1]; rfl)
  have hl1 : (⟨#[36, b]⟩ : ByteArray).toList = [36, b] := by rw [ByteArray.toList_eq]
  have hn1 := next_at U (T.size + 1) (T.size + 1 + 2) (by omega) (by omega)
    (fun i h1 h2 => by
      by_cases e0 : i = T.size + 1
      · rw [e0, p0]; rfl
      · rw [show i = T.size + 1 + 1 by omega, p1]; rcases hbb with rfl | rfl <;> decide) (Or.inr (by rw [p2]; rfl))
    (by rw [show T.size + 1 + 2 = T.size + 1 + (⟨#[36, b]⟩ : ByteArray).size from rfl, hex1, hl1]; rcases hbb with rfl | rfl <;> decide)
  rw [show T.size + 1 + 2 = T.size + 1 + (⟨#[36, b]⟩ : ByteArray).size from rfl, hex1] at hn1
  have hex2 := extract_is U x (T.size + 4) (by omega) hb
  have hn2 := next_at U (T.size + 4) (T.size + 4 + x.size) (by have := hx.1; omega) (by omega)
    (fun i h1 h2 => by rw [show i = T.size + 4 + (i - (T.size + 4)) by omega, hb _ (by omega)]; exact (hx.2 _ (by omega)).1) (Or.inr (by rw [he]; rfl)) (by rw [hex2]; exact hx.notKey 40)
  rw [hex2] at hn2
  have hsk := next_skip U (T.size + 1 + (⟨#[36, b]⟩ : ByteArray).size) (by have : (⟨#[36, b]⟩ : ByteArray).size = 2 := rfl; omega) (by rw [show T.size + 1 + (⟨#[36, b]⟩ : ByteArray).size = T.size + 1 + 2 from rfl, p2]; rfl)
  rw [show T.size + 1 + (⟨#[36, b]⟩ : ByteArray).size + 1 = T.size + 4 from rfl, hn2] at hsk
  have htk1 : ∃ k : Int, (k = 7 ∨ k = 8) ∧ ∀ p, takeF (rdM T).2 ⟨#[36, b]⟩ p = (0, { (rdM T).2 with kind := k }) := by
    rcases hbb with rfl | rfl
    · refine ⟨7, Or.inl rfl, fun p => ?_⟩
      unfold takeF
      rw [if_pos (by rw [hk]; rfl)]
      unfold takeFirstF
      rw [hl1]
      simp [hbl]
    · refine ⟨8, Or.inr rfl, fun p => ?_⟩
      unfold takeF
      rw [if_pos (by rw [hk]; rfl)]
      unfold takeFirstF
      rw [hl1]
      simp
  obtain ⟨k, hk7, htk1⟩ := htk1
  have htk2 : ∀ p, takeF { (rdM T).2 with kind := k } x p = (13, { (rdM T).2 with kind := k }) := by
    intro p
    have hcs : checkSymbolF { (rdM T).2 with kind := k } x = 13 := by
      unfold checkSymbolF isTakenF isTakenVF
      rcases hk7 with rfl | rfl
      · simp only [BEq.rfl, if_true]
        rw [if_pos]
        right
        rcases ht with ht | ht <;> simp [ht]
      · simp only [show ((8 : Int) == 7) = false from rfl, BEq.rfl, if_true, Bool.false_eq_true, if_false]
        rw [if_pos]
        right
        rcases ht with ht | ht <;> simp [ht]
    unfold takeF
    have k0 : (k == 0) = false := by rcases hk7 with rfl | rfl <;> rfl
    have k6 : (k == 6) = false := by rcases hk7 with rfl | rfl <;> rfl
    rw [if_neg (by show ¬ (k == 0) = true; rw [k0]; simp), if_neg (by show ¬ (k == 6) = true; rw [k6]; simp), if_neg (by rw [hx.notKey]; simp), if_neg (by rintro ⟨h, -⟩; rw [hx.notKey] at h; cases h), if_neg (by rw [hx.noDollar]; simp), if_neg (by show ¬ (rdM T).2.inProof = true; rw [hip]; simp), hcs]
    rfl
  have hw1 : isWordF (nextF U (T.size + 1)).1 = true := by rw [hn1]; exact isWord_mk _ _
  rw [e, read_on _ _ _ _ (by omega) hw1 (by rw [hn1]; simp only [htk1]; rfl), hn1]
  simp only [htk1]
  rw [read_rule _ _ _ _ (by rw [hsk]; exact isWord_mk _ _) (by rw [hsk]; simp only [htk2]; rfl), hsk]
  simp only [htk2]

theorem row_has (l : List St) (k : Nat) (r : Rw) (h : r ∈ rowsUp l k) (hv : r.verdict ≠ 0) : ∃ n s, n < k ∧ l[n]? = some s ∧ isA s.kind = true ∧ r.label = s.label := by
  induction k with
  | zero => simp [rowsUp] at h
  | succ k ih =>
    rw [rowsUp] at h
    rcases List.mem_append.1 h with h | h
    · obtain ⟨n, s, h1, h2⟩ := ih h
      exact ⟨n, s, by omega, h2⟩
    · rw [List.mem_singleton.1 h] at hv ⊢
      unfold oneRow at hv ⊢
      cases hs : l[k]? with
      | none => rw [hs] at hv; exact absurd rfl hv
      | some s =>
        rw [hs] at hv
        simp only at hv ⊢
        cases h4 : (s.kind == 4)
        · cases h5 : (s.kind == 5)
          · rw [h4, h5] at hv; exact absurd rfl hv
          · refine ⟨k, s, by omega, hs, by unfold isA; rw [h5]; simp, ?_⟩
            simp only [Bool.false_eq_true, if_false, if_true]
            unfold judgeF judgeR
            repeat' split
            all_goals rfl
        · exact ⟨k, s, by omega, hs, by unfold isA; rw [h4]; rfl, by simp⟩
theorem row_asserts (l : List St) (r : Rw) (h : r ∈ rowsF l) : ∃ n s, findAF l r.label = some n ∧ l[n]? = some s ∧ isA s.kind = true ∧ s.label = r.label := by
  unfold rowsF at h
  obtain ⟨h1, h2⟩ := List.mem_filter.1 h
  obtain ⟨n, s, hn, hs, ha, hl⟩ := row_has l _ r h1 (by simpa using h2)
  have hA : namesA l r.label n = true := by unfold namesA; rw [hs]; simp [hl, ha]
  cases hf : findAF l r.label with
  | none =>
    unfold findAF at hf
    have := List.find?_eq_none.1 hf n (List.mem_range.2 hn)
    exact absurd hA this
  | some m =>
    unfold findAF at hf
    have hm := List.find?_some hf
    unfold namesA at hm
    cases hms : l[m]? with
    | none => rw [hms] at hm; cases hm
    | some t =>
      rw [hms] at hm
      simp only [Bool.and_eq_true] at hm
      exact ⟨m, t, rfl, hms, hm.2, bytes_eq hm.1⟩
/-- The label of a hypothesis is no assertion's. -/
theorem find_none {l : List St} (hd : Dif l) (n : Nat) (s : St) (hs : l[n]? = some s) (hk : s.kind = 2 ∨ s.kind = 3) : findAF l s.label = none := by
  unfold findAF
  rw [List.find?_eq_none]
  intro m hm hA
  unfold namesA at hA
  cases ht : l[m]? with
  | none => rw [ht] at hA; cases hA
  | some t =>
    rw [ht] at hA
    simp only [Bool.and_eq_true] at hA
    have hkt : t.kind = 4 ∨ t.kind = 5 := by have := hA.2; unfold isA at this; simpa using this
    rcases Nat.lt_trichotomy m n with h | h | h
    · have := hd m n t s h ht hs (by omega) (by omega)
      rw [hA.1] at this; cases this
    · subst h; rw [hs] at ht; cases ht; omega
    · have := hd n m s t h hs ht (by omega) (by omega)
      have e : s.label = t.label := (bytes_eq hA.1).symm
      rw [e] at this; simp at this
theorem hyps_kind (l : List St) (a n : Nat) (h : n ∈ hypsF l a) : ∃ s, l[n]? = some s ∧ (s.kind = 2 ∨ s.kind = 3) := by
  unfold hypsF hypsTo at h
  obtain ⟨-, h2⟩ := List.mem_filter.1 h
  unfold mandAt at h2
  cases hs : l[n]? with
  | none => rw [hs] at h2; cases h2
  | some s =>
    rw [hs] at h2
    simp only [Bool.and_eq_true] at h2
    refine ⟨s, rfl, ?_⟩
    have := h2.2
    unfold mandF at this
    cases e2 : (s.kind == 2)
    · rw [e2] at this
      right; simpa using this
    · left; simpa using e2

end Go.Proofs.YtcipkfhpcbddiaaGreat
