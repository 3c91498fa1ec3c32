/- Texts: what follows a text turns nothing of it. No walk. -/
import Derived.Test.YtkblmflajfomaaaKeep4
namespace Go.Proofs.Ytkblmflajfomaaa
open Go.RowKit

/-- U begins with T and a line's end. -/
structure Pre (T U : ByteArray) : Prop where
  lt : T.size < U.size
  same : ∀ i, i < T.size → byteAt U i = byteAt T i
  lf : byteAt U T.size = 10

theorem blank10 : blankB 10 = true := by decide

theorem skip_pre {T U : ByteArray} (h : Pre T U) (k : Nat) (hk : k ≤ T.size) : (skip T k < T.size → skip U k = skip T k) ∧ (skip T k = T.size → skip U k = skip U (T.size + 1)) := by
  have hlt := h.lt
  suffices H : ∀ n k, k ≤ T.size → T.size - k = n → (skip T k < T.size → skip U k = skip T k) ∧ (skip T k = T.size → skip U k = skip U (T.size + 1)) from H _ k hk rfl
  intro n
  induction n with
  | zero =>
    intro k hk hn
    have e : k = T.size := by omega
    subst e
    have e1 : skip T T.size = T.size := skip_off T _ (by omega)
    refine ⟨fun h1 => by omega, fun _ => skip_on U _ hlt (by rw [h.lf]; exact blank10)⟩
  | succ n ih =>
    intro k hk hn
    have hkl : k < T.size := by omega
    cases hb : blankB (byteAt T k) with
    | true =>
      rw [skip_on T k hkl hb, skip_on U k (by omega) (by rw [h.same k hkl]; exact hb)]
      exact ih (k + 1) (by omega) (by omega)
    | false =>
      have e1 : skip T k = k := skip_off T k (by simp [hb])
      have e2 : skip U k = k := skip_off U k (by rw [h.same k hkl]; simp [hb])
      rw [e1, e2]
      exact ⟨fun _ => rfl, fun h1 => by omega⟩

theorem word_pre {T U : ByteArray} (h : Pre T U) (k : Nat) (hk : k ≤ T.size) : wordEnd U k = wordEnd T k := by
  have hlt := h.lt
  suffices H : ∀ n k, k ≤ T.size → T.size - k = n → wordEnd U k = wordEnd T k from H _ k hk rfl
  intro n
  induction n with
  | zero =>
    intro k hk hn
    have e : k = T.size := by omega
    subst e
    rw [word_off T _ (by omega), word_off U _ (by rw [h.lf]; simp [blank10])]
  | succ n ih =>
    intro k hk hn
    have hkl : k < T.size := by omega
    by_cases hb : blankB (byteAt T k) = false ∧ plainB (byteAt T k) = true
    · rw [word_on T k hkl hb.1 hb.2, word_on U k (by omega) (by rw [h.same k hkl]; exact hb.1) (by rw [h.same k hkl]; exact hb.2)]
      exact ih (k + 1) (by omega) (by omega)
    · rw [word_off T k (fun hh => hb ⟨hh.2.1, hh.2.2⟩), word_off U k (fun hh => hb (by rw [← h.same k hkl]; exact ⟨hh.2.1, hh.2.2⟩))]

theorem extract_pre {T U : ByteArray} (h : Pre T U) (a z : Nat) (hz : z ≤ T.size) : U.extract a z = T.extract a z := by
  have hlt := h.lt
  apply ByteArray.ext
  apply Array.ext
  · simp; omega
  · intro i h1 h2
    have hi : a + i < T.size := by simp at h2; omega
    have := h.same (a + i) hi
    rw [byteAt_of U _ (by omega), byteAt_of T _ hi] at this
    have e : U[a + i].toNat = T[a + i].toNat := by omega
    have e2 : U[a + i] = T[a + i] := UInt8.toNat_inj.1 e
    simpa [ByteArray.getElem_eq_getElem_data] using e2

theorem skip_skip (d : ByteArray) (k : Nat) (hk : k ≤ d.size) : skip d (skip d k) = skip d k := by
  suffices H : ∀ n k, k ≤ d.size → d.size - k = n → skip d (skip d k) = skip d k from H _ k hk rfl
  intro n
  induction n with
  | zero =>
    intro k hk hn
    have e : skip d k = k := skip_off d k (by omega)
    rw [e, e]
  | succ n ih =>
    intro k hk hn
    by_cases hb : k < d.size ∧ blankB (byteAt d k) = true
    · rw [skip_on d k hb.1 hb.2]; exact ih (k + 1) (by omega) (by omega)
    · rw [skip_off d k hb, skip_off d k hb]

theorem runF_no (d : ByteArray) (k : Nat) (h : d.size ≤ k) (hk : k ≤ d.size) : runF d k = (⟨⟨#[]⟩, 0, true, k⟩, k) := by
  have a := skip_le d k hk
  have b := wordEnd_le d (skip d k) a.2
  have e : skip d k = k := by omega
  have e2 : wordEnd d k = k := by rw [e] at b; omega
  simp only [runF, e, e2]
  rw [if_neg (by omega), if_pos (by omega)]
theorem runF_fin (d : ByteArray) (k : Nat) (h : (runF d k).1.fin = true) : (runF d k).1.rule = 0 := by
  unfold runF at h ⊢
  simp only at h ⊢
  split at h
  · cases h
  · next h1 =>
    rw [if_neg h1]
    split at h
    · next h2 => rw [if_pos h2]
    · cases h

/-- The four shapes of what 'run' tells. -/
theorem runF_cases (d : ByteArray) (k : Nat) (hk : k ≤ d.size) :
    (∃ z, z < d.size ∧ wordEnd d (skip d k) = z ∧ blankB (byteAt d z) = false ∧ runF d k = (⟨⟨#[]⟩, 1, false, z⟩, z)) ∨
    (skip d k = d.size ∧ runF d k = (⟨⟨#[]⟩, 0, true, d.size⟩, d.size)) ∨
    (∃ z, skip d k < z ∧ z ≤ d.size ∧ wordEnd d (skip d k) = z ∧ ¬ (z < d.size ∧ blankB (byteAt d z) = false) ∧ runF d k = (⟨d.extract (skip d k) z, 0, false, skip d k⟩, z)) := by
  have a := skip_le d k hk
  have b := wordEnd_le d (skip d k) a.2
  by_cases h1 : wordEnd d (skip d k) < d.size ∧ blankB (byteAt d (wordEnd d (skip d k))) = false
  · left
    refine ⟨wordEnd d (skip d k), h1.1, rfl, h1.2, ?_⟩
    simp only [runF]; rw [if_pos h1]
  · by_cases h2 : wordEnd d (skip d k) ≤ skip d k
    · right; left
      have e : wordEnd d (skip d k) = skip d k := by omega
      have es : skip d k = d.size := by
        rcases Nat.lt_or_ge (skip d k) d.size with hl | hl
        · exfalso
          rw [e] at h1
          have hbt : blankB (byteAt d (skip d k)) = true := by
            cases hb : blankB (byteAt d (skip d k)) with
            | true => rfl
            | false => exact absurd ⟨hl, hb⟩ h1
          have e3 := skip_on d (skip d k) hl hbt
          have e4 : skip d (skip d k) = skip d k := skip_skip d k hk
          have := skip_le d (skip d k + 1) (by omega)
          omega
        · omega
      refine ⟨es, ?_⟩
      simp only [runF]; rw [if_neg h1, if_pos h2, e, es]
    · right; right
      refine ⟨wordEnd d (skip d k), by omega, b.2, rfl, h1, ?_⟩
      simp only [runF]; rw [if_neg h1, if_neg h2]

theorem run_pre {T U : ByteArray} (h : Pre T U) (k : Nat) (hk : k ≤ T.size) :
    ((runF T k).1.fin = false → runF U k = runF T k) ∧ ((runF T k).1.fin = true → runF U k = runF U (T.size + 1) ∧ runF T k = (⟨⟨#[]⟩, 0, true, T.size⟩, T.size)) := by
  have hlt := h.lt
  have sp := skip_pre h k hk
  have sl := skip_le T k hk
  rcases runF_cases T k hk with ⟨z, hz, hw, hb, he⟩ | ⟨hs, he⟩ | ⟨z, hz1, hz2, hw, hb, he⟩
  · refine ⟨fun _ => ?_, fun hf => by rw [he] at hf; cases hf⟩
    have a := wordEnd_le T (skip T k) sl.2
    have es : skip U k = skip T k := sp.1 (by omega)
    have ew : wordEnd U (skip T k) = z := (word_pre h _ sl.2).trans hw
    rw [he]
    simp only [runF, es, ew]
    rw [if_pos ⟨by omega, by rw [h.same z hz]; exact hb⟩]
  · refine ⟨fun hf => (by rw [he] at hf; cases hf), fun _ => ⟨?_, he⟩⟩
    have es := sp.2 hs
    simp only [runF, es]
  · refine ⟨fun _ => ?_, fun hf => by rw [he] at hf; cases hf⟩
    have es : skip U k = skip T k := sp.1 (by omega)
    have ew : wordEnd U (skip T k) = z := (word_pre h _ sl.2).trans hw
    rw [he]
    simp only [runF, es, ew]
    have hne : ¬ (z < U.size ∧ blankB (byteAt U z) = false) := by
      rintro ⟨_, hbz⟩
      rcases Nat.lt_or_ge z T.size with hl | hl
      · rw [h.same z hl] at hbz; exact hb ⟨hl, hbz⟩
      · have : z = T.size := by omega
        rw [this, h.lf, blank10] at hbz; cases hbz
    rw [if_neg hne, if_neg (by omega), extract_pre h _ _ hz2]

end Go.Proofs.Ytkblmflajfomaaa
