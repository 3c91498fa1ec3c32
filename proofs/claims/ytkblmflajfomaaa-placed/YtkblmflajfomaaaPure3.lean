/- Texts: places, inclusions. No walk. -/
import Derived.Test.YtkblmflajfomaaaPure2
namespace Go.Proofs.Ytkblmflajfomaaa
open Go.RowKit

theorem runF_pos (d : ByteArray) (k : Nat) (hk : k ≤ d.size) : k ≤ (runF d k).1.pos ∧ (runF d k).1.pos ≤ d.size := by
  have a := skip_le d k hk
  have b := wordEnd_le d (skip d k) a.2
  rcases runF_cases d k hk with ⟨z, hz, hw, _, he⟩ | ⟨hs, he⟩ | ⟨z, hz1, hz2, hw, _, he⟩
  · rw [he]; simp only; omega
  · rw [he]; simp only; omega
  · rw [he]; simp only; omega
theorem commentF_pos (d : ByteArray) (k : Nat) (hk : k ≤ d.size) : k ≤ (commentF d k).1.pos ∧ (commentF d k).1.pos ≤ d.size := by
  unfold commentF
  generalize d.size - k + 1 = f
  induction f generalizing k with
  | zero => simp [commentTo, hk]
  | succ f ih =>
    have rp := runF_pos d k hk
    have rl := runF_le d k hk
    rw [commentTo]
    split
    · split
      · exact rp
      · have := ih (runF d k).2 rl.2.1; omega
    · split
      · exact rp
      · exact rp
theorem nextF_pos (d : ByteArray) (k : Nat) (hk : k ≤ d.size) : k ≤ (nextF d k).1.pos ∧ (nextF d k).1.pos ≤ d.size := by
  unfold nextF
  generalize d.size - k + 1 = f
  induction f generalizing k with
  | zero => simp [nextTo, hk]
  | succ f ih =>
    have rp := runF_pos d k hk
    have rl := runF_le d k hk
    rw [nextTo]
    split
    · have cl := commentF_le d (runF d k).2 rl.2.1
      have cp := commentF_pos d (runF d k).2 rl.2.1
      split
      · have := ih _ cl.2; omega
      · omega
    · exact rp
theorem readF_pos (s : ByteArray) (k : Nat) (d : Db) (hk : k ≤ s.size) (h : (readF s k d).1 ≠ 0) : k ≤ (readF s k d).2 ∧ (readF s k d).2 ≤ s.size := by
  unfold readF at h ⊢
  generalize s.size - k + 1 = f at h ⊢
  induction f generalizing k d with
  | zero => simp [readTo] at h
  | succ f ih =>
    have np := nextF_pos s k hk
    have nl := nextF_le s k hk
    rw [readTo] at h ⊢
    split at h
    · next h1 =>
      rw [if_pos h1]
      split at h
      · next h2 =>
        rw [if_pos h2]
        have := ih _ _ nl.2.1 h
        omega
      · next h2 => rw [if_neg h2]; exact np
    · next h1 =>
      rw [if_neg h1]
      split at h
      · next h2 =>
        rw [if_pos h2]
        split at h
        · simp at h
        · next h3 => rw [if_neg h3]; exact np
      · next h2 => rw [if_neg h2]; exact np

theorem line_mono (s : ByteArray) (i j : Nat) (h : i ≤ j) : lineAt s i ≤ lineAt s j := by
  induction j with
  | zero => have : i = 0 := by omega
            subst this; omega
  | succ j ih =>
    by_cases e : i = j + 1
    · subst e; omega
    · have := ih (by omega)
      rw [lineAt]; split <;> omega
theorem line_pre {T U : ByteArray} (h : Pre T U) (k : Nat) (hk : k ≤ T.size) : lineAt U k = lineAt T k ∧ colAt U k = colAt T k := by
  induction k with
  | zero => exact ⟨rfl, rfl⟩
  | succ k ih =>
    have i := ih (by omega)
    rw [lineAt, lineAt, colAt, colAt, h.same k (by omega), i.1, i.2]
    exact ⟨rfl, rfl⟩

theorem byteAt_append_left (a b : ByteArray) (i : Nat) (h : i < a.size) : byteAt (a ++ b) i = byteAt a i := by
  have h2 : i < (a ++ b).size := by rw [ByteArray.size_append]; omega
  rw [byteAt_of _ _ h2, byteAt_of _ _ h, ByteArray.getElem_append_left h]
theorem byteAt_append_right (a b : ByteArray) (i : Nat) (h : i < b.size) : byteAt (a ++ b) (a.size + i) = byteAt b i := by
  have h2 : a.size + i < (a ++ b).size := by rw [ByteArray.size_append]; omega
  rw [byteAt_of _ _ h2, byteAt_of _ _ h, ByteArray.getElem_append_right (by omega)]
  simp

theorem lf_size : (⟨#[10]⟩ : ByteArray).size = 1 := rfl
theorem pre_of (T c : ByteArray) : Pre T (T ++ ⟨#[10]⟩ ++ c) := by
  have s1 : (T ++ ⟨#[10]⟩).size = T.size + 1 := by rw [ByteArray.size_append, lf_size]
  refine ⟨by rw [ByteArray.size_append, s1]; omega, fun i hi => ?_, ?_⟩
  · rw [byteAt_append_left _ _ _ (by omega), byteAt_append_left _ _ _ hi]
  · rw [byteAt_append_left _ _ _ (by omega)]
    have := byteAt_append_right T ⟨#[10]⟩ 0 (by rw [lf_size]; omega)
    rw [Nat.add_zero] at this
    rw [this]; decide +kernel
theorem pre_right (T c : ByteArray) (i : Nat) (h : i < c.size) : byteAt (T ++ ⟨#[10]⟩ ++ c) (T.size + 1 + i) = byteAt c i := by
  have s1 : (T ++ ⟨#[10]⟩).size = T.size + 1 := by rw [ByteArray.size_append, lf_size]
  have := byteAt_append_right (T ++ ⟨#[10]⟩) c i h
  rw [s1] at this; exact this

theorem extract_two (s : ByteArray) (i : Nat) (h : i + 2 ≤ s.size) : (s.extract i (i + 2)).toList = [s[i], s[i + 1]] := by
  rw [ByteArray.toList_eq]
  have h1 : i + 2 ≤ s.data.toList.length := h
  have e : (s.extract i (i + 2)).data.toList = (s.data.toList.drop i).take 2 := by
    simp [ByteArray.data_extract, Array.toList_extract]
  rw [e, List.drop_eq_getElem_cons (by omega), List.drop_eq_getElem_cons (by omega)]
  simp [ByteArray.getElem_eq_getElem_data]
theorem incAt_iff (s : ByteArray) (i : Nat) (h : i + 2 ≤ s.size) : incAt s i = true ↔ byteAt s i = 36 ∧ byteAt s (i + 1) = 91 := by
  unfold incAt
  rw [extract_two s i h, byteAt_of s i (by omega), byteAt_of s (i + 1) (by omega)]
  simp only [beq_iff_eq, List.cons.injEq, and_true]
  constructor
  · rintro ⟨a, b⟩; rw [a, b]; exact ⟨rfl, rfl⟩
  · rintro ⟨a, b⟩
    exact ⟨UInt8.toNat_inj.1 (by show _ = 36; omega), UInt8.toNat_inj.1 (by show _ = 91; omega)⟩
theorem holds_iff (s : ByteArray) : holdsF s = false ↔ ∀ i, i + 2 ≤ s.size → ¬ (byteAt s i = 36 ∧ byteAt s (i + 1) = 91) := by
  constructor
  · intro h i hi hb
    have : holdsF s = true := any_yes i (by omega) (by simp [hi, (incAt_iff s i hi).2 hb])
    rw [h] at this; cases this
  · intro h
    refine any_no (fun i hi => ?_)
    by_cases h2 : i + 2 ≤ s.size
    · cases hc : incAt s i with
      | true => exact absurd ((incAt_iff s i h2).1 hc) (h i h2)
      | false => simp
    · simp [h2]

theorem holds_more (T c : ByteArray) (h1 : holdsF T = false) (h2 : holdsF c = false) : holdsF (T ++ ⟨#[10]⟩ ++ c) = false := by
  have p := pre_of T c
  have sz : (T ++ ⟨#[10]⟩ ++ c).size = T.size + 1 + c.size := by rw [ByteArray.size_append, ByteArray.size_append, lf_size]
  rw [holds_iff] at h1 h2 ⊢
  rintro i hi ⟨ha, hb⟩
  rcases Nat.lt_or_ge (i + 1) T.size with hl | hl
  · exact h1 i (by omega) ⟨by rw [← p.same i (by omega)]; exact ha, by rw [← p.same (i + 1) hl]; exact hb⟩
  · rcases Nat.lt_or_ge i T.size with hl2 | hl2
    · have : i + 1 = T.size := by omega
      rw [this, p.lf] at hb; omega
    · rcases Nat.lt_or_ge T.size i with hl3 | hl3
      · obtain ⟨j, rfl⟩ : ∃ j, i = T.size + 1 + j := ⟨i - (T.size + 1), by omega⟩
        rw [pre_right T c j (by omega)] at ha
        rw [show T.size + 1 + j + 1 = T.size + 1 + (j + 1) by omega, pre_right T c (j + 1) (by omega)] at hb
        exact h2 j (by omega) ⟨ha, hb⟩
      · have : i = T.size := by omega
        rw [this, p.lf] at ha; omega

/-- A word is a cut of the text. -/
theorem nextF_cut (d : ByteArray) (k : Nat) (hk : k ≤ d.size) (h : isWordF (nextF d k).1 = true) : ∃ a z, z ≤ d.size ∧ (nextF d k).1.text = d.extract a z := by
  unfold nextF at h ⊢
  generalize d.size - k + 1 = f at h ⊢
  induction f generalizing k with
  | zero => simp [nextTo, isWordF] at h
  | succ f ih =>
    have rl := runF_le d k hk
    have cl := commentF_le d (runF d k).2 rl.2.1
    rw [nextTo] at h ⊢
    split at h
    · next h1 =>
      rw [if_pos h1]
      split at h
      · next h2 => rw [if_pos h2]; exact ih _ cl.2 h
      · next h2 => exact absurd h h2
    · next h1 =>
      rw [if_neg h1]
      rcases runF_cases d k hk with ⟨z, _, _, _, he⟩ | ⟨_, he⟩ | ⟨z, _, hz2, _, _, he⟩
      · rw [he] at h; simp [isWordF] at h
      · rw [he] at h; simp [isWordF] at h
      · rw [he]; exact ⟨_, z, hz2, rfl⟩

theorem noInc_of (T : ByteArray) (h : holdsF T = false) : NoInc T := by
  intro k hk hw
  obtain ⟨a, z, hz, ht⟩ := nextF_cut T k hk hw
  rw [ht]
  cases hc : ((T.extract a z).toList == [36, 91]) with
  | false => rfl
  | true =>
    exfalso
    have hl : (T.extract a z).toList = [36, 91] := by simpa using hc
    have hlen : (T.extract a z).toList.length = 2 := by rw [hl]; rfl
    have hsz : (T.extract a z).size = 2 := by rw [ByteArray.toList_eq] at hlen; exact hlen
    have e : z = a + 2 := by simp at hsz; omega
    subst e
    have : incAt T a = true := by unfold incAt; exact hc
    exact (holds_iff T).1 h a hz ((incAt_iff T a hz).1 this)

theorem texts : Texts := by
  refine ⟨⟨by decide, by decide +kernel, by decide +kernel⟩, noInc_of, fun T c hT hc => ⟨holds_more T c hT.inc hc, ?_⟩⟩
  intro r p hr hne
  have pr := pre_of T c
  obtain ⟨d', _, he⟩ := read_pre pr 0 emptyDb (Nat.zero_le _) hT.ok
  rw [he] at hr
  have hz : T.size + 1 ≤ (T ++ ⟨#[10]⟩ ++ c).size := pr.lt
  have hp := readF_pos (T ++ ⟨#[10]⟩ ++ c) (T.size + 1) d' hz (by rw [hr]; simpa using hne)
  rw [hr] at hp
  have m := line_mono (T ++ ⟨#[10]⟩ ++ c) (T.size + 1) p hp.1
  have l1 : lineAt (T ++ ⟨#[10]⟩ ++ c) (T.size + 1) = lineAt T T.size + 1 := by
    rw [lineAt, pr.lf, (line_pre pr T.size (Nat.le_refl _)).1]; simp
  omega

end Go.Proofs.Ytkblmflajfomaaa
