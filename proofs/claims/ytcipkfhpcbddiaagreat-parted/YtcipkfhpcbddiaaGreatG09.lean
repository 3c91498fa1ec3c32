/- Our texts: ReadB, Pure1, Pure2, Pure3, Pure5, PuE, Rw. -/
import Derived.Test.YtcipkfhpcbddiaaGreatG03
import Derived.Test.YtcipkfhpcbddiaaGreatG04
import Derived.Test.YtcipkfhpcbddiaaGreatG08
/- Package reader: how much can be read, and how long the lists can be. No walk. -/
namespace Go.Proofs.YtcipkfhpcbddiaaGreat
open Go.RowKit

/-- How long the lists can be behind m words. -/
structure Bnd (d : Db) (m : Nat) : Prop where
  labels : d.labels.length ≤ m
  constants : d.constants.length + d.symbols.length ≤ m
  variables : d.variables.length + d.symbols.length ≤ m
  active : d.active.length + d.symbols.length ≤ m
  typed : d.typed.length + d.symbols.length ≤ m
  blocks : d.blocks.length ≤ m
  sts : d.sts.length ≤ m
  proof : d.proof.length ≤ m
  inner : ∀ p, p ∈ d.blocks → p.1 ≤ m ∧ p.2 ≤ m
  same : d.rbl.length = d.blocks.length
  recs : ∀ x, x ∈ d.rbl → x ≤ d.sts.length

theorem Bnd.small {d : Db} {m N : Nat} (h : Bnd d m) (hN : m ≤ N) : Small d N ∧ Inner d N :=
  ⟨⟨by have := h.labels; omega, by have := h.constants; omega, by have := h.variables; omega, by have := h.active; omega, by have := h.typed; omega, by have := h.blocks; omega, by have := h.sts; omega, by have := h.blocks; have := h.same; omega, by have := h.constants; omega, by have := h.proof; omega⟩,
   ⟨fun p hp => by have := h.inner p hp; omega, h.same, h.recs⟩⟩
theorem Bnd.mono {d : Db} {m m' : Nat} (h : Bnd d m) (hm : m ≤ m') : Bnd d m' :=
  ⟨by have := h.labels; omega, by have := h.constants; omega, by have := h.variables; omega, by have := h.active; omega, by have := h.typed; omega, by have := h.blocks; omega, by have := h.sts; omega, by have := h.proof; omega, fun p hp => by have := h.inner p hp; omega, h.same, h.recs⟩
theorem Bnd.empty : Bnd emptyDb 0 := by
  refine ⟨?_, ?_, ?_, ?_, ?_, ?_, ?_, ?_, ?_, ?_, ?_⟩ <;> simp [emptyDb]
theorem Bnd.plain {d : Db} {m : Nat} (h : Bnd d m) (k : Int) (l : ByteArray) (b : Bool) : Bnd { d with kind := k, label := l, inProof := b } m := ⟨h.labels, h.constants, h.variables, h.active, h.typed, h.blocks, h.sts, h.proof, h.inner, h.same, h.recs⟩

theorem endSts_len (l : List St) (b : Nat) : (endSts l b).length = l.length := endTo_len l b l.length

theorem Bnd.declare {d : Db} {m : Nat} (h : Bnd d m) (p : Pl) : Bnd { declareF d p with kind := 0, label := ⟨#[]⟩, symbols := [], inProof := false, proof := [] } (m + 1) := by
  have e2 := h.constants
  have e3 := h.variables
  have e4 := h.active
  have e5 := h.typed
  have h' := h.mono (Nat.le_succ m)
  unfold declareF
  split
  · exact ⟨h'.labels, by simp; omega, by simp; omega, by simp; omega, by simp; omega, h'.blocks, h'.sts, by simp, h'.inner, h'.same, h'.recs⟩
  · split
    · have := vars_len d.variables (d.symbols.take d.symbols.length)
      simp only [List.take_length] at this
      exact ⟨h'.labels, by simp [varsAt]; omega, by simp [varsAt]; omega, by simp [varsAt]; omega, by simp [varsAt]; omega, h'.blocks, h'.sts, by simp, h'.inner, h'.same, h'.recs⟩
    · unfold typeIt addSt
      have := h.sts
      split
      · next hc => exact ⟨h'.labels, by simp; omega, by simp; omega, by simp; omega, by simp; omega, h'.blocks, by simp; omega, by simp, h'.inner, h'.same, fun x hx => by have := h.recs x hx; simp; omega⟩
      · exact ⟨h'.labels, by simp; omega, by simp; omega, by simp; omega, by simp; omega, h'.blocks, by simp; omega, by simp, h'.inner, h'.same, fun x hx => by have := h.recs x hx; simp; omega⟩

theorem Bnd.take {d : Db} {m : Nat} (h : Bnd d m) (x : ByteArray) (pl : Pl) : Bnd (takeF d x pl).2 (m + 1) := by
  have h' := h.mono (Nat.le_succ m)
  have hk := fun k => h'.plain k d.label d.inProof
  have e1 := h.labels
  have e2 := h.constants
  have e3 := h.variables
  have e4 := h.active
  have e5 := h.typed
  have e6 := h.blocks
  have hlab : Bnd (takeLabelF d x).2 (m + 1) := by
    unfold takeLabelF
    split
    · exact h'
    · split
      · exact h'
      · split
        · exact h'
        · exact ⟨by simp; omega, h'.constants, h'.variables, h'.active, h'.typed, h'.blocks, h'.sts, h'.proof, h'.inner, h'.same, h'.recs⟩
  have hkey : Bnd (takeKeywordF d x).2 (m + 1) := by
    unfold takeKeywordF
    split
    · exact hk 2
    · split
      · exact hk 3
      · split
        · exact hk 4
        · split
          · exact hk 5
          · exact h'
  have hfst : Bnd (takeFirstF d x).2 (m + 1) := by
    unfold takeFirstF
    split
    · refine ⟨h'.labels, h'.constants, h'.variables, h'.active, h'.typed, by simp; omega, h'.sts, h'.proof, ?_, by simp [h.same], ?_⟩
      · intro p hp
        simp only [List.mem_append, List.mem_singleton] at hp
        rcases hp with hp | rfl
        · exact h'.inner p hp
        · simp only; omega
      · intro y hy
        simp only [List.mem_append, List.mem_singleton] at hy
        rcases hy with hy | rfl
        · exact h.recs y hy
        · exact Nat.le_refl _
    · split
      · split
        · exact h'
        · next p hp =>
          unfold endBothF
          have hne : d.rbl ≠ [] := by
            intro e
            have := h.same
            rw [e, last_split hp] at this
            simp at this
          obtain ⟨y, hy⟩ : ∃ y, d.rbl.getLast? = some y := ⟨_, List.getLast?_eq_some_getLast hne⟩
          rw [hy]
          refine ⟨h'.labels, h'.constants, h'.variables, ?_, ?_, ?_, ?_, h'.proof, ?_, ?_, ?_⟩
          · simp only [endBlockF, List.length_take]; omega
          · simp only [endBlockF, List.length_take]; omega
          · simp only [endBlockF, List.length_dropLast]; omega
          · show (endSts d.sts y).length ≤ _; rw [endSts_len]; exact h'.sts
          · intro q hq
            simp only [endBlockF] at hq
            exact h'.inner q (List.dropLast_subset _ hq)
          · simp only [endBlockF, List.length_dropLast, h.same]
          · intro q hq
            show q ≤ (endSts d.sts y).length
            rw [endSts_len]
            exact h.recs q (List.dropLast_subset _ hq)
      · split
        · split
          · exact h'
          · exact hk 7
        · split
          · exact hk 8
          · split
            · exact hk 1
            · split
              · exact h'
              · exact hlab
  have hend : Bnd (endF d pl).2 (m + 1) := by
    unfold endF
    split
    · exact h'
    · split
      · exact h'
      · exact h.declare pl
  unfold takeF
  split
  · exact hfst
  · split
    · exact hkey
    · split
      · exact hend
      · split
        · unfold beginProofF
          split
          · exact h'
          · exact h'.plain d.kind d.label true
        · split
          · exact h'
          · split
            · exact ⟨h'.labels, h'.constants, h'.variables, h'.active, h'.typed, h'.blocks, h'.sts, by have := h.proof; simp; omega, h'.inner, h'.same, h'.recs⟩
            · split
              · exact ⟨h'.labels, by simp; omega, by simp; omega, by simp; omega, by simp; omega, h'.blocks, h'.sts, h'.proof, h'.inner, h'.same, h'.recs⟩
              · exact h'

/-- What files that were not begun can still bring. -/
def unb (fs : List (ByteArray × ByteArray)) (bg : List Bool) (j : Nat) : Nat := if bg.getD j true = true then 0 else (fileDt fs j).size + 2
def meas (fs : List (ByteArray × ByteArray)) (bg : List Bool) : Nat := unb fs bg 0 + unb fs bg 1 + unb fs bg 2 + unb fs bg 3
theorem meas_set (fs : List (ByteArray × ByteArray)) (bg : List Bool) (j : Nat) (hl : bg.length = 4) (hb : bg.getD j true = false) : meas fs (bg.set j true) + (fileDt fs j).size + 2 = meas fs bg := by
  match bg, hl with
  | [a, b, c, d], _ =>
    match j with
    | 0 => simp at hb; subst hb; simp [meas, unb]; omega
    | 1 => simp at hb; subst hb; simp [meas, unb]; omega
    | 2 => simp at hb; subst hb; simp [meas, unb]; omega
    | 3 => simp at hb; subst hb; simp [meas, unb]; omega
    | j + 4 => simp at hb

/-- Reading stays within what there is. -/
def Kin (fs : List (ByteArray × ByteArray)) (bg : List Bool) (m : Nat) (r : Red) : Prop :=
  r.2.1.length = 4 ∧ meas fs r.2.1 ≤ meas fs bg ∧ ∃ m', Bnd r.2.2 m' ∧ m' + meas fs r.2.1 ≤ m + meas fs bg

theorem step_kin (fs : List (ByteArray × ByteArray)) (f : Nat) (IH : ∀ j bg d m, bg.length = 4 → Bnd d m → Kin fs bg m (fileR fs f j bg d)) (x k : Nat) (bg : List Bool) (d : Db) (m : Nat) (hk : k ≤ (fileDt fs x).size) (hl : bg.length = 4) (hB : Bnd d m) (hw : isWordF (nextF (fileDt fs x) k).1 = true) :
    Kin fs bg (m + 1) (stepR fs f x k bg d).1 ∧ k < (stepR fs f x k bg d).2 ∧ (stepR fs f x k bg d).2 ≤ (fileDt fs x).size := by
  have nl := nextF_le (fileDt fs x) k hk
  have nl2 := nl.2.2 hw
  unfold stepR wordR
  split
  · unfold incR
    split
    · exact ⟨⟨hl, Nat.le_refl _, m, hB, by simp only; omega⟩, nl2, nl.2.1⟩
    · next j z' he =>
      have h2 := IH j bg d m hl hB
      refine ⟨⟨h2.1, h2.2.1, ?_⟩, ?_⟩
      · obtain ⟨m', q1, q2⟩ := h2.2.2; exact ⟨m', q1, by simp only; omega⟩
      · unfold incF at he
        have l1 := nextF_le (fileDt fs x) (nextF (fileDt fs x) k).2 nl.2.1
        have l2 := nextF_le (fileDt fs x) (nextF (fileDt fs x) (nextF (fileDt fs x) k).2).2 l1.2.1
        repeat' split at he
        all_goals first | (cases he; done) | skip
        injection he with he
        injection he with he1 he2
        subst he2
        omega
  · exact ⟨⟨hl, Nat.le_refl _, m + 1, hB.take _ _, by simp only; omega⟩, nl2, nl.2.1⟩

theorem go_kin (fs : List (ByteArray × ByteArray)) (f : Nat) : (∀ x k bg d m, k ≤ (fileDt fs x).size → bg.length = 4 → Bnd d m → (readGo fs f x k bg d).2.1.length = 4 ∧ meas fs (readGo fs f x k bg d).2.1 ≤ meas fs bg ∧ ∃ m', Bnd (readGo fs f x k bg d).2.2 m' ∧ m' + meas fs (readGo fs f x k bg d).2.1 ≤ m + ((fileDt fs x).size - k) + meas fs bg) ∧
    (∀ j bg d m, bg.length = 4 → Bnd d m → Kin fs bg m (fileR fs f j bg d)) := by
  have second : ∀ f, (∀ x k bg d m, k ≤ (fileDt fs x).size → bg.length = 4 → Bnd d m → (readGo fs f x k bg d).2.1.length = 4 ∧ meas fs (readGo fs f x k bg d).2.1 ≤ meas fs bg ∧ ∃ m', Bnd (readGo fs f x k bg d).2.2 m' ∧ m' + meas fs (readGo fs f x k bg d).2.1 ≤ m + ((fileDt fs x).size - k) + meas fs bg) →
      (∀ j bg d m, bg.length = 4 → Bnd d m → Kin fs bg m (fileR fs f j bg d)) := by
    intro f h j bg d m hl hB
    unfold fileR
    split
    · exact ⟨hl, Nat.le_refl _, m, hB, Nat.le_refl _⟩
    · next hb =>
      have hb' : bg.getD j true = false := by simpa using hb
      have hm := meas_set fs bg j hl hb'
      have := h j 0 (bg.set j true) d m (Nat.zero_le _) (by simpa using hl) hB
      refine ⟨this.1, by omega, ?_⟩
      obtain ⟨m', q1, q2⟩ := this.2.2
      exact ⟨m', q1, by omega⟩
  induction f with
  | zero =>
    have h0 : ∀ x k bg d m, k ≤ (fileDt fs x).size → bg.length = 4 → Bnd d m → (readGo fs 0 x k bg d).2.1.length = 4 ∧ meas fs (readGo fs 0 x k bg d).2.1 ≤ meas fs bg ∧ ∃ m', Bnd (readGo fs 0 x k bg d).2.2 m' ∧ m' + meas fs (readGo fs 0 x k bg d).2.1 ≤ m + ((fileDt fs x).size - k) + meas fs bg := by
      intro x k bg d m hk hl hB
      exact ⟨hl, Nat.le_refl _, m, hB, by simp only [readGo]; omega⟩
    exact ⟨h0, second 0 h0⟩
  | succ f ih =>
    have h1 : ∀ x k bg d m, k ≤ (fileDt fs x).size → bg.length = 4 → Bnd d m → (readGo fs (f + 1) x k bg d).2.1.length = 4 ∧ meas fs (readGo fs (f + 1) x k bg d).2.1 ≤ meas fs bg ∧ ∃ m', Bnd (readGo fs (f + 1) x k bg d).2.2 m' ∧ m' + meas fs (readGo fs (f + 1) x k bg d).2.1 ≤ m + ((fileDt fs x).size - k) + meas fs bg := by
      intro x k bg d m hk hl hB
      cases hw : isWordF (nextF (fileDt fs x) k).1 with
      | true =>
        have st := step_kin fs f ih.2 x k bg d m hk hl hB hw
        obtain ⟨⟨s1, s2, m1, s3, s4⟩, s5, s6⟩ := st
        cases h2 : ((stepR fs f x k bg d).1.1.1 == 0) with
        | true =>
          rw [go_on fs f x k bg d hw h2]
          obtain ⟨r1, r2, m2, r3, r4⟩ := ih.1 x (stepR fs f x k bg d).2 (stepR fs f x k bg d).1.2.1 (stepR fs f x k bg d).1.2.2 m1 s6 s1 s3
          exact ⟨r1, by omega, m2, r3, by omega⟩
        | false =>
          rw [go_stop fs f x k bg d hw h2]
          exact ⟨s1, s2, m1, s3, by omega⟩
      | false =>
        by_cases h2 : (nextF (fileDt fs x) k).1.fin = true ∧ openF d = false
        · rw [go_end fs f x k bg d hw h2.1 h2.2]; exact ⟨hl, Nat.le_refl _, m, hB, by simp only; omega⟩
        · rw [go_bad fs f x k bg d hw h2]; exact ⟨hl, Nat.le_refl _, m, hB, by simp only; omega⟩
    exact ⟨h1, second (f + 1) h1⟩

/-- A word of the text is no longer than the text. -/
theorem commentF_text (d : ByteArray) (k : Nat) (hd : d.size ≤ 1024) : (commentF d k).1.text.size ≤ 1024 := by
  unfold commentF
  generalize d.size - k + 1 = f
  induction f generalizing k with
  | zero => simp [commentTo, ByteArray.size]
  | succ f ih =>
    rw [commentTo]
    split
    · split
      · simp [ByteArray.size]
      · exact ih _
    · split
      · simp [ByteArray.size]
      · exact runF_text d k hd
theorem nextF_text (d : ByteArray) (k : Nat) (hd : d.size ≤ 1024) : (nextF d k).1.text.size ≤ 1024 := by
  unfold nextF
  generalize d.size - k + 1 = f
  induction f generalizing k with
  | zero => simp [nextTo, ByteArray.size]
  | succ f ih =>
    rw [nextTo]
    split
    · split
      · exact ih _
      · exact commentF_text d _ hd
    · exact runF_text d k hd

end Go.Proofs.YtcipkfhpcbddiaaGreat

/- Texts: what follows a text turns nothing of it. No walk. -/
namespace Go.Proofs.YtcipkfhpcbddiaaGreat
open Go.RowKit

/-- U begins with T and a line's end. -/
structure Pre (T U : ByteArray) : Prop where
  lt : T.size < U.size
  same : ∀ i, i < T.size → byteAt U i = byteAt T i
  lf : byteAt U T.size = 10

theorem blank10 : blankB 10 = true := by decide

theorem skip_pre {T U : ByteArray} (h : Pre T U) (k : Nat) (hk : k ≤ T.size) : (skip T k < T.size → skip U k = skip T k) ∧ (skip T k = T.size → skip U k = skip U (T.size + 1)) := by
  have hlt := h.lt
  suffices H : ∀ n k, k ≤ T.size → T.size - k = n → (skip T k < T.size → skip U k = skip T k) ∧ (skip T k = T.size → skip U k = skip U (T.size + 1)) from H _ k hk rfl
  intro n
  induction n with
  | zero =>
    intro k hk hn
    have e : k = T.size := by omega
    subst e
    have e1 : skip T T.size = T.size := skip_off T _ (by omega)
    refine ⟨fun h1 => by omega, fun _ => skip_on U _ hlt (by rw [h.lf]; exact blank10)⟩
  | succ n ih =>
    intro k hk hn
    have hkl : k < T.size := by omega
    cases hb : blankB (byteAt T k) with
    | true =>
      rw [skip_on T k hkl hb, skip_on U k (by omega) (by rw [h.same k hkl]; exact hb)]
      exact ih (k + 1) (by omega) (by omega)
    | false =>
      have e1 : skip T k = k := skip_off T k (by simp [hb])
      have e2 : skip U k = k := skip_off U k (by rw [h.same k hkl]; simp [hb])
      rw [e1, e2]
      exact ⟨fun _ => rfl, fun h1 => by omega⟩

theorem word_pre {T U : ByteArray} (h : Pre T U) (k : Nat) (hk : k ≤ T.size) : wordEnd U k = wordEnd T k := by
  have hlt := h.lt
  suffices H : ∀ n k, k ≤ T.size → T.size - k = n → wordEnd U k = wordEnd T k from H _ k hk rfl
  intro n
  induction n with
  | zero =>
    intro k hk hn
    have e : k = T.size := by omega
    subst e
    rw [word_off T _ (by omega), word_off U _ (by rw [h.lf]; simp [blank10])]
  | succ n ih =>
    intro k hk hn
    have hkl : k < T.size := by omega
    by_cases hb : blankB (byteAt T k) = false ∧ plainB (byteAt T k) = true
    · rw [word_on T k hkl hb.1 hb.2, word_on U k (by omega) (by rw [h.same k hkl]; exact hb.1) (by rw [h.same k hkl]; exact hb.2)]
      exact ih (k + 1) (by omega) (by omega)
    · rw [word_off T k (fun hh => hb ⟨hh.2.1, hh.2.2⟩), word_off U k (fun hh => hb (by rw [← h.same k hkl]; exact ⟨hh.2.1, hh.2.2⟩))]

theorem extract_pre {T U : ByteArray} (h : Pre T U) (a z : Nat) (hz : z ≤ T.size) : U.extract a z = T.extract a z := by
  have hlt := h.lt
  apply ByteArray.ext
  apply Array.ext
  · simp; omega
  · intro i h1 h2
    have hi : a + i < T.size := by simp at h2; omega
    have := h.same (a + i) hi
    rw [byteAt_of U _ (by omega), byteAt_of T _ hi] at this
    have e : U[a + i].toNat = T[a + i].toNat := by omega
    have e2 : U[a + i] = T[a + i] := UInt8.toNat_inj.1 e
    simpa [ByteArray.getElem_eq_getElem_data] using e2

theorem skip_skip (d : ByteArray) (k : Nat) (hk : k ≤ d.size) : skip d (skip d k) = skip d k := by
  suffices H : ∀ n k, k ≤ d.size → d.size - k = n → skip d (skip d k) = skip d k from H _ k hk rfl
  intro n
  induction n with
  | zero =>
    intro k hk hn
    have e : skip d k = k := skip_off d k (by omega)
    rw [e, e]
  | succ n ih =>
    intro k hk hn
    by_cases hb : k < d.size ∧ blankB (byteAt d k) = true
    · rw [skip_on d k hb.1 hb.2]; exact ih (k + 1) (by omega) (by omega)
    · rw [skip_off d k hb, skip_off d k hb]

theorem runF_no (d : ByteArray) (k : Nat) (h : d.size ≤ k) (hk : k ≤ d.size) : runF d k = (⟨⟨#[]⟩, 0, true, k⟩, k) := by
  have a := skip_le d k hk
  have b := wordEnd_le d (skip d k) a.2
  have e : skip d k = k := by omega
  have e2 : wordEnd d k = k := by rw [e] at b; omega
  simp only [runF, e, e2]
  rw [if_neg (by omega), if_pos (by omega)]
theorem runF_fin (d : ByteArray) (k : Nat) (h : (runF d k).1.fin = true) : (runF d k).1.rule = 0 := by
  unfold runF at h ⊢
  simp only at h ⊢
  split at h
  · cases h
  · next h1 =>
    rw [if_neg h1]
    split at h
    · next h2 => rw [if_pos h2]
    · cases h

/-- The four shapes of what 'run' tells. -/
theorem runF_cases (d : ByteArray) (k : Nat) (hk : k ≤ d.size) :
    (∃ z, z < d.size ∧ wordEnd d (skip d k) = z ∧ blankB (byteAt d z) = false ∧ runF d k = (⟨⟨#[]⟩, 1, false, z⟩, z)) ∨
    (skip d k = d.size ∧ runF d k = (⟨⟨#[]⟩, 0, true, d.size⟩, d.size)) ∨
    (∃ z, skip d k < z ∧ z ≤ d.size ∧ wordEnd d (skip d k) = z ∧ ¬ (z < d.size ∧ blankB (byteAt d z) = false) ∧ runF d k = (⟨d.extract (skip d k) z, 0, false, skip d k⟩, z)) := by
  have a := skip_le d k hk
  have b := wordEnd_le d (skip d k) a.2
  by_cases h1 : wordEnd d (skip d k) < d.size ∧ blankB (byteAt d (wordEnd d (skip d k))) = false
  · left
    refine ⟨wordEnd d (skip d k), h1.1, rfl, h1.2, ?_⟩
    simp only [runF]; rw [if_pos h1]
  · by_cases h2 : wordEnd d (skip d k) ≤ skip d k
    · right; left
      have e : wordEnd d (skip d k) = skip d k := by omega
      have es : skip d k = d.size := by
        rcases Nat.lt_or_ge (skip d k) d.size with hl | hl
        · exfalso
          rw [e] at h1
          have hbt : blankB (byteAt d (skip d k)) = true := by
            cases hb : blankB (byteAt d (skip d k)) with
            | true => rfl
            | false => exact absurd ⟨hl, hb⟩ h1
          have e3 := skip_on d (skip d k) hl hbt
          have e4 : skip d (skip d k) = skip d k := skip_skip d k hk
          have := skip_le d (skip d k + 1) (by omega)
          omega
        · omega
      refine ⟨es, ?_⟩
      simp only [runF]; rw [if_neg h1, if_pos h2, e, es]
    · right; right
      refine ⟨wordEnd d (skip d k), by omega, b.2, rfl, h1, ?_⟩
      simp only [runF]; rw [if_neg h1, if_neg h2]

theorem run_pre {T U : ByteArray} (h : Pre T U) (k : Nat) (hk : k ≤ T.size) :
    ((runF T k).1.fin = false → runF U k = runF T k) ∧ ((runF T k).1.fin = true → runF U k = runF U (T.size + 1) ∧ runF T k = (⟨⟨#[]⟩, 0, true, T.size⟩, T.size)) := by
  have hlt := h.lt
  have sp := skip_pre h k hk
  have sl := skip_le T k hk
  rcases runF_cases T k hk with ⟨z, hz, hw, hb, he⟩ | ⟨hs, he⟩ | ⟨z, hz1, hz2, hw, hb, he⟩
  · refine ⟨fun _ => ?_, fun hf => by rw [he] at hf; cases hf⟩
    have a := wordEnd_le T (skip T k) sl.2
    have es : skip U k = skip T k := sp.1 (by omega)
    have ew : wordEnd U (skip T k) = z := (word_pre h _ sl.2).trans hw
    rw [he]
    simp only [runF, es, ew]
    rw [if_pos ⟨by omega, by rw [h.same z hz]; exact hb⟩]
  · refine ⟨fun hf => (by rw [he] at hf; cases hf), fun _ => ⟨?_, he⟩⟩
    have es := sp.2 hs
    simp only [runF, es]
  · refine ⟨fun _ => ?_, fun hf => by rw [he] at hf; cases hf⟩
    have es : skip U k = skip T k := sp.1 (by omega)
    have ew : wordEnd U (skip T k) = z := (word_pre h _ sl.2).trans hw
    rw [he]
    simp only [runF, es, ew]
    have hne : ¬ (z < U.size ∧ blankB (byteAt U z) = false) := by
      rintro ⟨_, hbz⟩
      rcases Nat.lt_or_ge z T.size with hl | hl
      · rw [h.same z hl] at hbz; exact hb ⟨hl, hbz⟩
      · have : z = T.size := by omega
        rw [this, h.lf, blank10] at hbz; cases hbz
    rw [if_neg hne, if_neg (by omega), extract_pre h _ _ hz2]

end Go.Proofs.YtcipkfhpcbddiaaGreat

/- Texts: comments, words, reading. No walk. -/
namespace Go.Proofs.YtcipkfhpcbddiaaGreat
open Go.RowKit

theorem commentF_fin (d : ByteArray) (k : Nat) : (commentF d k).1.fin = false := by
  unfold commentF
  generalize d.size - k + 1 = f
  induction f generalizing k with
  | zero => rfl
  | succ f ih =>
    rw [commentTo]
    split
    · split
      · rfl
      · exact ih _
    · split
      · rfl
      · next h => simpa using h

/-- The shapes of what a comment leaves, one word at a time. -/
theorem comment_cases (d : ByteArray) (k : Nat) (hk : k ≤ d.size) :
    (isWordF (runF d k).1 = true ∧ commentF d k = commentF d (runF d k).2) ∨ ((runF d k).1.fin = false ∧ commentF d k = runF d k) ∨
    ((runF d k).1.fin = false ∧ isWordF (runF d k).1 = true ∧ commentF d k = (⟨⟨#[]⟩, 2, false, (runF d k).1.pos⟩, (runF d k).2)) ∨ (commentF d k).1.rule = 3 := by
  cases hw : isWordF (runF d k).1 with
  | true =>
    have hf : (runF d k).1.fin = false := by have := isWordF_eq hw; rw [this]
    cases hx : ((runF d k).1.text.toList == [36, 41]) with
    | true => exact Or.inr (Or.inl ⟨hf, comment_close d k hw hx⟩)
    | false =>
      cases hy : bracketF (runF d k).1.text with
      | true => exact Or.inr (Or.inr (Or.inl ⟨hf, rfl, comment_nest d k hw hx hy⟩))
      | false => exact Or.inl ⟨rfl, comment_on d k hk hw hx hy⟩
  | false =>
    cases hf : (runF d k).1.fin with
    | true => right; right; right; rw [comment_open d k hw hf]
    | false => exact Or.inr (Or.inl ⟨rfl, comment_bad d k hw hf⟩)

theorem comment_pre {T U : ByteArray} (h : Pre T U) (k : Nat) (hk : k ≤ T.size) (h3 : (commentF T k).1.rule ≠ 3) : commentF U k = commentF T k := by
  have hlt := h.lt
  suffices H : ∀ n k, k ≤ T.size → T.size - k ≤ n → (commentF T k).1.rule ≠ 3 → commentF U k = commentF T k from H _ k hk (Nat.le_refl _) h3
  clear hk h3 k
  intro n
  induction n with
  | zero =>
    intro k hk hn h3
    exfalso
    apply h3
    have e : k = T.size := by omega
    subst e
    have hr : runF T T.size = (⟨⟨#[]⟩, 0, true, T.size⟩, T.size) := runF_no T T.size (Nat.le_refl _) (Nat.le_refl _)
    rw [comment_open T T.size (by rw [hr]; rfl) (by rw [hr])]
  | succ n ih =>
    intro k hk hn h3
    have rp := run_pre h k hk
    have rl := runF_le T k hk
    cases hf : (runF T k).1.fin with
    | true =>
      exfalso; apply h3
      have e := (rp.2 hf).2
      rw [comment_open T k (by rw [e]; rfl) hf]
    | false =>
      have er := rp.1 hf
      cases hw : isWordF (runF T k).1 with
      | true =>
        have rl2 := rl.2.2 hw
        cases hx : ((runF T k).1.text.toList == [36, 41]) with
        | true => rw [comment_close T k hw hx, comment_close U k (by rw [er]; exact hw) (by rw [er]; exact hx), er]
        | false =>
          cases hy : bracketF (runF T k).1.text with
          | true => rw [comment_nest T k hw hx hy, comment_nest U k (by rw [er]; exact hw) (by rw [er]; exact hx) (by rw [er]; exact hy), er]
          | false =>
            rw [comment_on T k hk hw hx hy] at h3 ⊢
            rw [comment_on U k (by omega) (by rw [er]; exact hw) (by rw [er]; exact hx) (by rw [er]; exact hy), er]
            exact ih _ rl.2.1 (by omega) h3
      | false => rw [comment_bad T k hw hf, comment_bad U k (by rw [er]; exact hw) (by rw [er]; exact hf), er]

/-- What comes next hangs on what 'run' tells alone. -/
theorem next_congr (d : ByteArray) (k j : Nat) (hk : k ≤ d.size) (hj : j ≤ d.size) (h : runF d k = runF d j) : nextF d k = nextF d j := by
  obtain ⟨f, hf⟩ : ∃ f, f = d.size + 1 := ⟨_, rfl⟩
  rw [← nextTo_fuel d (f + 1) k hk (by omega), ← nextTo_fuel d (f + 1) j hj (by omega), nextTo, nextTo, h]

theorem next_pre {T U : ByteArray} (h : Pre T U) (k : Nat) (hk : k ≤ T.size) (h3 : (nextF T k).1.rule ≠ 3) :
    ((nextF T k).1.fin = false → nextF U k = nextF T k) ∧ ((nextF T k).1.fin = true → nextF U k = nextF U (T.size + 1)) := by
  have hlt := h.lt
  suffices H : ∀ n k, k ≤ T.size → T.size - k ≤ n → (nextF T k).1.rule ≠ 3 → ((nextF T k).1.fin = false → nextF U k = nextF T k) ∧ ((nextF T k).1.fin = true → nextF U k = nextF U (T.size + 1)) from H _ k hk (Nat.le_refl _) h3
  clear hk h3 k
  intro n
  induction n with
  | zero =>
    intro k hk hn h3
    have e : k = T.size := by omega
    subst e
    have hr : runF T T.size = (⟨⟨#[]⟩, 0, true, T.size⟩, T.size) := runF_no T T.size (Nat.le_refl _) (Nat.le_refl _)
    have hn' : nextF T T.size = runF T T.size := next_plain T _ (Or.inl (by rw [hr]; rfl))
    rw [hn', hr]
    exact ⟨fun hf => (by cases hf), fun _ => next_congr U _ _ (by omega) (by omega) ((run_pre h T.size (Nat.le_refl _)).2 (by rw [hr])).1⟩
  | succ n ih =>
    intro k hk hn h3
    have rp := run_pre h k hk
    have rl := runF_le T k hk
    cases hf : (runF T k).1.fin with
    | true =>
      have hr := (rp.2 hf).2
      have hn' : nextF T k = runF T k := next_plain T _ (Or.inl (by rw [hr]; rfl))
      rw [hn']
      refine ⟨fun hf' => ?_, fun _ => next_congr U _ _ (by omega) (by omega) (rp.2 hf).1⟩
      rw [hf] at hf'; cases hf'
    | false =>
      have er := rp.1 hf
      by_cases hc : isWordF (runF T k).1 = true ∧ ((runF T k).1.text.toList == [36, 40]) = true
      · have rl2 := rl.2.2 hc.1
        cases hcw : isWordF (commentF T (runF T k).2).1 with
        | true =>
          have c3 : (commentF T (runF T k).2).1.rule ≠ 3 := by rw [isWordF_eq hcw]; simp
          have ec := comment_pre h (runF T k).2 rl.2.1 c3
          have cl := commentF_le T (runF T k).2 rl.2.1
          rw [next_on T k hk hc.1 hc.2 hcw] at h3 ⊢
          rw [next_on U k (by omega) (by rw [er]; exact hc.1) (by rw [er]; exact hc.2) (by rw [er, ec]; exact hcw), er, ec]
          exact ih _ cl.2 (by omega) h3
        | false =>
          rw [next_broken T k hc.1 hc.2 hcw] at h3 ⊢
          have ec := comment_pre h (runF T k).2 rl.2.1 h3
          refine ⟨fun _ => ?_, fun hf' => ?_⟩
          · rw [next_broken U k (by rw [er]; exact hc.1) (by rw [er]; exact hc.2) (by rw [er, ec]; exact hcw), er, ec]
          · rw [commentF_fin] at hf'; cases hf'
      · have hc' : isWordF (runF T k).1 = false ∨ ((runF T k).1.text.toList == [36, 40]) = false := by
          cases h1 : isWordF (runF T k).1 with
          | false => exact Or.inl rfl
          | true =>
            cases h2 : ((runF T k).1.text.toList == [36, 40]) with
            | false => exact Or.inr rfl
            | true => exact absurd ⟨h1, h2⟩ hc
        rw [next_plain T k hc']
        refine ⟨fun _ => ?_, fun hf' => ?_⟩
        · rw [next_plain U k (by rw [er]; exact hc'), er]
        · rw [hf] at hf'; cases hf'

theorem nextF_fin (d : ByteArray) (k : Nat) (h : (nextF d k).1.fin = true) : (nextF d k).1.rule = 0 := by
  unfold nextF at h ⊢
  generalize d.size - k + 1 = f at h ⊢
  induction f generalizing k with
  | zero => rfl
  | succ f ih =>
    rw [nextTo] at h ⊢
    split at h
    · next h1 =>
      rw [if_pos h1]
      split at h
      · next h2 => rw [if_pos h2]; exact ih _ h
      · rw [commentF_fin] at h; cases h
    · next h1 => rw [if_neg h1]; exact runF_fin d k h

theorem runF_pos (d : ByteArray) (k : Nat) (hk : k ≤ d.size) : k ≤ (runF d k).1.pos ∧ (runF d k).1.pos ≤ d.size := by
  have a := skip_le d k hk
  have b := wordEnd_le d (skip d k) a.2
  rcases runF_cases d k hk with ⟨z, hz, hw, _, he⟩ | ⟨hs, he⟩ | ⟨z, hz1, hz2, hw, _, he⟩
  · rw [he]; simp only; omega
  · rw [he]; simp only; omega
  · rw [he]; simp only; omega
theorem commentF_pos (d : ByteArray) (k : Nat) (hk : k ≤ d.size) : k ≤ (commentF d k).1.pos ∧ (commentF d k).1.pos ≤ d.size := by
  unfold commentF
  generalize d.size - k + 1 = f
  induction f generalizing k with
  | zero => simp [commentTo, hk]
  | succ f ih =>
    have rp := runF_pos d k hk
    have rl := runF_le d k hk
    rw [commentTo]
    split
    · split
      · exact rp
      · have := ih (runF d k).2 rl.2.1; omega
    · split
      · exact rp
      · exact rp
theorem nextF_pos (d : ByteArray) (k : Nat) (hk : k ≤ d.size) : k ≤ (nextF d k).1.pos ∧ (nextF d k).1.pos ≤ d.size := by
  unfold nextF
  generalize d.size - k + 1 = f
  induction f generalizing k with
  | zero => simp [nextTo, hk]
  | succ f ih =>
    have rp := runF_pos d k hk
    have rl := runF_le d k hk
    rw [nextTo]
    split
    · have cl := commentF_le d (runF d k).2 rl.2.1
      have cp := commentF_pos d (runF d k).2 rl.2.1
      split
      · have := ih _ cl.2; omega
      · omega
    · exact rp
theorem line_mono (s : ByteArray) (i j : Nat) (h : i ≤ j) : lineAt s i ≤ lineAt s j := by
  induction j with
  | zero => have : i = 0 := by omega
            subst this; omega
  | succ j ih =>
    by_cases e : i = j + 1
    · subst e; omega
    · have := ih (by omega)
      rw [lineAt]; split <;> omega
theorem line_pre {T U : ByteArray} (h : Pre T U) (k : Nat) (hk : k ≤ T.size) : lineAt U k = lineAt T k ∧ colAt U k = colAt T k := by
  induction k with
  | zero => exact ⟨rfl, rfl⟩
  | succ k ih =>
    have i := ih (by omega)
    rw [lineAt, lineAt, colAt, colAt, h.same k (by omega), i.1, i.2]
    exact ⟨rfl, rfl⟩

theorem readF_pos (n s : ByteArray) (k : Nat) (d : Db) (hk : k ≤ s.size) (h : (readF n s k d).1.1 ≠ 0) : k ≤ (readF n s k d).1.2 ∧ (readF n s k d).1.2 ≤ s.size := by
  unfold readF at h ⊢
  generalize s.size - k + 1 = f at h ⊢
  induction f generalizing k d with
  | zero => simp [readTo] at h
  | succ f ih =>
    have np := nextF_pos s k hk
    have nl := nextF_le s k hk
    rw [readTo] at h ⊢
    split at h
    · next h1 =>
      rw [if_pos h1]
      split at h
      · next h2 =>
        rw [if_pos h2]
        have := ih _ _ nl.2.1 h
        omega
      · next h2 => rw [if_neg h2]; exact np
    · next h1 =>
      rw [if_neg h1]
      split at h
      · next h2 =>
        rw [if_pos h2]
        split at h
        · simp at h
        · next h3 => rw [if_neg h3]; exact np
      · next h2 => rw [if_neg h2]; exact np

theorem plAt_pre {T U : ByteArray} (h : Pre T U) (n : ByteArray) (p : Nat) (hp : p ≤ T.size) : plAt n U p = plAt n T p := by
  unfold plAt; rw [(line_pre h p hp).1, (line_pre h p hp).2]

theorem read_congr (n s : ByteArray) (k j : Nat) (d : Db) (hk : k ≤ s.size) (hj : j ≤ s.size) (h : nextF s k = nextF s j) : readF n s k d = readF n s j d := by
  obtain ⟨f, hf⟩ : ∃ f, f = s.size + 1 := ⟨_, rfl⟩
  rw [← readTo_fuel n s (f + 1) k d hk (by omega), ← readTo_fuel n s (f + 1) j d hj (by omega), readTo, readTo, h]

/-- A text without a fault, and what follows it: the reading goes on behind it. -/
theorem read_pre {T U : ByteArray} (h : Pre T U) (nm : ByteArray) (k : Nat) (d : Db) (hk : k ≤ T.size) (h0 : (readF nm T k d).1.1 = 0) : openF (readF nm T k d).2 = false ∧ readF nm U k d = readF nm U (T.size + 1) (readF nm T k d).2 := by
  have hlt := h.lt
  suffices H : ∀ n k d, k ≤ T.size → T.size - k ≤ n → (readF nm T k d).1.1 = 0 → openF (readF nm T k d).2 = false ∧ readF nm U k d = readF nm U (T.size + 1) (readF nm T k d).2 from H _ k d hk (Nat.le_refl _) h0
  clear hk h0 k d
  intro n
  induction n with
  | zero =>
    intro k d hk hn h0
    have e : k = T.size := by omega
    subst e
    have hr : runF T T.size = (⟨⟨#[]⟩, 0, true, T.size⟩, T.size) := runF_no T T.size (Nat.le_refl _) (Nat.le_refl _)
    have hn' : nextF T T.size = runF T T.size := next_plain T _ (Or.inl (by rw [hr]; rfl))
    have np := next_pre h T.size (Nat.le_refl _) (by rw [hn', hr]; simp)
    have hw : isWordF (nextF T T.size).1 = false := by rw [hn', hr]; rfl
    have hf : (nextF T T.size).1.fin = true := by rw [hn', hr]
    cases ho : openF d with
    | true => rw [read_open nm T _ d hw hf ho] at h0; simp at h0
    | false => rw [read_end nm T _ d hw hf ho]; exact ⟨ho, read_congr nm U _ _ d (by omega) (by omega) (np.2 hf)⟩
  | succ n ih =>
    intro k d hk hn h0
    have nl := nextF_le T k hk
    cases hw : isWordF (nextF T k).1 with
    | true =>
      have np := next_pre h k hk (by rw [isWordF_eq hw]; simp)
      have hf : (nextF T k).1.fin = false := by rw [isWordF_eq hw]
      have en := np.1 hf
      have nl2 := nl.2.2 hw
      have ep := plAt_pre h nm (nextF T k).1.pos (nextF_pos T k hk).2
      cases ht : ((takeF d (nextF T k).1.text (plAt nm T (nextF T k).1.pos)).1 == 0) with
      | true =>
        rw [read_on nm T k d hk hw ht] at h0 ⊢
        rw [read_on nm U k d (by omega) (by rw [en]; exact hw) (by rw [en, ep]; exact ht), en, ep]
        exact ih _ _ nl.2.1 (by omega) h0
      | false =>
        rw [read_rule nm T k d hw ht] at h0
        simp only at h0
        rw [h0] at ht; simp at ht
    | false =>
      cases hf : (nextF T k).1.fin with
      | true =>
        cases ho : openF d with
        | true => rw [read_open nm T k d hw hf ho] at h0; simp at h0
        | false =>
          have h3 : (nextF T k).1.rule ≠ 3 := by rw [nextF_fin T k hf]; simp
          rw [read_end nm T k d hw hf ho]
          exact ⟨ho, read_congr nm U _ _ d (by omega) (by omega) ((next_pre h k hk h3).2 hf)⟩
      | false =>
        rw [read_bad nm T k d hw hf] at h0
        have := isWordF_not hw hf
        simp only at h0
        rw [h0] at this; simp at this

end Go.Proofs.YtcipkfhpcbddiaaGreat

/- Texts: places, inclusions. No walk. -/
namespace Go.Proofs.YtcipkfhpcbddiaaGreat
open Go.RowKit

/-- Is the word that begins an inclusion somewhere in s? -/
def incAt (s : ByteArray) (i : Nat) : Bool := (s.extract i (i + 2)).toList == [36, 91]
def holdsF (s : ByteArray) : Bool := (List.range s.size).any (fun i => decide (i + 2 ≤ s.size) && incAt s i)

theorem byteAt_append_left (a b : ByteArray) (i : Nat) (h : i < a.size) : byteAt (a ++ b) i = byteAt a i := by
  have h2 : i < (a ++ b).size := by rw [ByteArray.size_append]; omega
  rw [byteAt_of _ _ h2, byteAt_of _ _ h, ByteArray.getElem_append_left h]
theorem byteAt_append_right (a b : ByteArray) (i : Nat) (h : i < b.size) : byteAt (a ++ b) (a.size + i) = byteAt b i := by
  have h2 : a.size + i < (a ++ b).size := by rw [ByteArray.size_append]; omega
  rw [byteAt_of _ _ h2, byteAt_of _ _ h, ByteArray.getElem_append_right (by omega)]
  simp

theorem lf_size : (⟨#[10]⟩ : ByteArray).size = 1 := rfl
theorem pre_of (T c : ByteArray) : Pre T (T ++ ⟨#[10]⟩ ++ c) := by
  have s1 : (T ++ ⟨#[10]⟩).size = T.size + 1 := by rw [ByteArray.size_append, lf_size]
  refine ⟨by rw [ByteArray.size_append, s1]; omega, fun i hi => ?_, ?_⟩
  · rw [byteAt_append_left _ _ _ (by omega), byteAt_append_left _ _ _ hi]
  · rw [byteAt_append_left _ _ _ (by omega)]
    have := byteAt_append_right T ⟨#[10]⟩ 0 (by rw [lf_size]; omega)
    rw [Nat.add_zero] at this
    rw [this]; decide +kernel
theorem pre_right (T c : ByteArray) (i : Nat) (h : i < c.size) : byteAt (T ++ ⟨#[10]⟩ ++ c) (T.size + 1 + i) = byteAt c i := by
  have s1 : (T ++ ⟨#[10]⟩).size = T.size + 1 := by rw [ByteArray.size_append, lf_size]
  have := byteAt_append_right (T ++ ⟨#[10]⟩) c i h
  rw [s1] at this; exact this

theorem extract_two (s : ByteArray) (i : Nat) (h : i + 2 ≤ s.size) : (s.extract i (i + 2)).toList = [s[i], s[i + 1]] := by
  rw [ByteArray.toList_eq]
  have h1 : i + 2 ≤ s.data.toList.length := h
  have e : (s.extract i (i + 2)).data.toList = (s.data.toList.drop i).take 2 := by
    simp [ByteArray.data_extract, Array.toList_extract]
  rw [e, List.drop_eq_getElem_cons (by omega), List.drop_eq_getElem_cons (by omega)]
  simp [ByteArray.getElem_eq_getElem_data]
theorem incAt_iff (s : ByteArray) (i : Nat) (h : i + 2 ≤ s.size) : incAt s i = true ↔ byteAt s i = 36 ∧ byteAt s (i + 1) = 91 := by
  unfold incAt
  rw [extract_two s i h, byteAt_of s i (by omega), byteAt_of s (i + 1) (by omega)]
  simp only [beq_iff_eq, List.cons.injEq, and_true]
  constructor
  · rintro ⟨a, b⟩; rw [a, b]; exact ⟨rfl, rfl⟩
  · rintro ⟨a, b⟩
    exact ⟨UInt8.toNat_inj.1 (by show _ = 36; omega), UInt8.toNat_inj.1 (by show _ = 91; omega)⟩
theorem holds_iff (s : ByteArray) : holdsF s = false ↔ ∀ i, i + 2 ≤ s.size → ¬ (byteAt s i = 36 ∧ byteAt s (i + 1) = 91) := by
  constructor
  · intro h i hi hb
    have : holdsF s = true := any_yes i (by omega) (by simp [hi, (incAt_iff s i hi).2 hb])
    rw [h] at this; cases this
  · intro h
    refine any_no (fun i hi => ?_)
    by_cases h2 : i + 2 ≤ s.size
    · cases hc : incAt s i with
      | true => exact absurd ((incAt_iff s i h2).1 hc) (h i h2)
      | false => simp
    · simp [h2]

theorem holds_more (T c : ByteArray) (h1 : holdsF T = false) (h2 : holdsF c = false) : holdsF (T ++ ⟨#[10]⟩ ++ c) = false := by
  have p := pre_of T c
  have sz : (T ++ ⟨#[10]⟩ ++ c).size = T.size + 1 + c.size := by rw [ByteArray.size_append, ByteArray.size_append, lf_size]
  rw [holds_iff] at h1 h2 ⊢
  rintro i hi ⟨ha, hb⟩
  rcases Nat.lt_or_ge (i + 1) T.size with hl | hl
  · exact h1 i (by omega) ⟨by rw [← p.same i (by omega)]; exact ha, by rw [← p.same (i + 1) hl]; exact hb⟩
  · rcases Nat.lt_or_ge i T.size with hl2 | hl2
    · have : i + 1 = T.size := by omega
      rw [this, p.lf] at hb; omega
    · rcases Nat.lt_or_ge T.size i with hl3 | hl3
      · obtain ⟨j, rfl⟩ : ∃ j, i = T.size + 1 + j := ⟨i - (T.size + 1), by omega⟩
        rw [pre_right T c j (by omega)] at ha
        rw [show T.size + 1 + j + 1 = T.size + 1 + (j + 1) by omega, pre_right T c (j + 1) (by omega)] at hb
        exact h2 j (by omega) ⟨ha, hb⟩
      · have : i = T.size := by omega
        rw [this, p.lf] at ha; omega

/-- A word is a cut of the text. -/
theorem nextF_cut (d : ByteArray) (k : Nat) (hk : k ≤ d.size) (h : isWordF (nextF d k).1 = true) : ∃ a z, z ≤ d.size ∧ (nextF d k).1.text = d.extract a z := by
  unfold nextF at h ⊢
  generalize d.size - k + 1 = f at h ⊢
  induction f generalizing k with
  | zero => simp [nextTo, isWordF] at h
  | succ f ih =>
    have rl := runF_le d k hk
    have cl := commentF_le d (runF d k).2 rl.2.1
    rw [nextTo] at h ⊢
    split at h
    · next h1 =>
      rw [if_pos h1]
      split at h
      · next h2 => rw [if_pos h2]; exact ih _ cl.2 h
      · next h2 => exact absurd h h2
    · next h1 =>
      rw [if_neg h1]
      rcases runF_cases d k hk with ⟨z, _, _, _, he⟩ | ⟨_, he⟩ | ⟨z, _, hz2, _, _, he⟩
      · rw [he] at h; simp [isWordF] at h
      · rw [he] at h; simp [isWordF] at h
      · rw [he]; exact ⟨_, z, hz2, rfl⟩

theorem noInc_of (T : ByteArray) (h : holdsF T = false) : NoInc T := by
  intro k hk hw
  obtain ⟨a, z, hz, ht⟩ := nextF_cut T k hk hw
  rw [ht]
  cases hc : ((T.extract a z).toList == [36, 91]) with
  | false => rfl
  | true =>
    exfalso
    have hl : (T.extract a z).toList = [36, 91] := by simpa using hc
    have hlen : (T.extract a z).toList.length = 2 := by rw [hl]; rfl
    have hsz : (T.extract a z).size = 2 := by rw [ByteArray.toList_eq] at hlen; exact hlen
    have e : z = a + 2 := by simp at hsz; omega
    subst e
    have : incAt T a = true := by unfold incAt; exact hc
    exact (holds_iff T).1 h a hz ((incAt_iff T a hz).1 this)

def mName : ByteArray := ⟨#[109]⟩
/-- What is said of the file m with this text, alone. -/
def rdM (T : ByteArray) : (Int × Nat) × Db := readF ⟨#[109]⟩ T 0 emptyDb
/-- A text that is well-formed, without inclusions, and fits. -/
structure Fine (T : ByteArray) : Prop where
  size : T.size ≤ 1024
  ok : (rdM T).1.1 = 0
  inc : holdsF T = false
theorem fine_empty : Fine ⟨#[]⟩ := ⟨by decide, by decide +kernel, by decide +kernel⟩
theorem more_line (T c : ByteArray) (hT : Fine T) (hne : (rdM (T ++ ⟨#[10]⟩ ++ c)).1.1 ≠ 0) : lineAt T T.size + 1 ≤ lineAt (T ++ ⟨#[10]⟩ ++ c) (rdM (T ++ ⟨#[10]⟩ ++ c)).1.2 := by
  have pr := pre_of T c
  have he := (read_pre pr ⟨#[109]⟩ 0 emptyDb (Nat.zero_le _) hT.ok).2
  unfold rdM at hne ⊢
  rw [he] at hne ⊢
  have hz : T.size + 1 ≤ (T ++ ⟨#[10]⟩ ++ c).size := pr.lt
  have hp := readF_pos ⟨#[109]⟩ (T ++ ⟨#[10]⟩ ++ c) (T.size + 1) _ hz hne
  have m := line_mono (T ++ ⟨#[10]⟩ ++ c) (T.size + 1) _ hp.1
  have l1 : lineAt (T ++ ⟨#[10]⟩ ++ c) (T.size + 1) = lineAt T T.size + 1 := by
    rw [lineAt, pr.lf, (line_pre pr T.size (Nat.le_refl _)).1]; simp
  omega

end Go.Proofs.YtcipkfhpcbddiaaGreat

/- Texts: a byte 7 inside a text is told at its place. No walk. -/
namespace Go.Proofs.YtcipkfhpcbddiaaGreat
open Go.RowKit

/-- S has the bytes of T up to k, and there a byte 7. -/
structure Ins (T S : ByteArray) (k : Nat) : Prop where
  le : k ≤ T.size
  lt : k < S.size
  same : ∀ i, i < k → byteAt S i = byteAt T i
  bel : byteAt S k = 7

theorem blank7 : blankB 7 = false := by decide
theorem plain7 : plainB 7 = false := by decide

def badAt (k : Nat) : Item × Nat := (⟨⟨#[]⟩, 1, false, k⟩, k)

theorem skip_ins {T S : ByteArray} {k : Nat} (h : Ins T S k) (j : Nat) (hj : j ≤ k) : (skip T j < k → skip S j = skip T j) ∧ (k ≤ skip T j → skip S j = k) := by
  have hlt := h.lt
  have hle := h.le
  suffices H : ∀ n j, j ≤ k → k - j = n → (skip T j < k → skip S j = skip T j) ∧ (k ≤ skip T j → skip S j = k) from H _ j hj rfl
  intro n
  induction n with
  | zero =>
    intro j hj hn
    have e : j = k := by omega
    subst e
    have e1 : skip S j = j := skip_off S j (by rw [h.bel, blank7]; simp)
    have e2 := (skip_le T j hle).1
    exact ⟨fun h1 => by omega, fun _ => e1⟩
  | succ n ih =>
    intro j hj hn
    have hjk : j < k := by omega
    by_cases hb : blankB (byteAt T j) = true
    · rw [skip_on T j (by omega) hb, skip_on S j (by omega) (by rw [h.same j hjk]; exact hb)]
      exact ih (j + 1) (by omega) (by omega)
    · rw [skip_off T j (fun hh => hb hh.2), skip_off S j (fun hh => hb (by rw [← h.same j hjk]; exact hh.2))]
      exact ⟨fun _ => rfl, fun h1 => by omega⟩

theorem word_ins {T S : ByteArray} {k : Nat} (h : Ins T S k) (j : Nat) (hj : j ≤ k) : (wordEnd T j < k → wordEnd S j = wordEnd T j) ∧ (k ≤ wordEnd T j → wordEnd S j = k) := by
  have hlt := h.lt
  have hle := h.le
  suffices H : ∀ n j, j ≤ k → k - j = n → (wordEnd T j < k → wordEnd S j = wordEnd T j) ∧ (k ≤ wordEnd T j → wordEnd S j = k) from H _ j hj rfl
  intro n
  induction n with
  | zero =>
    intro j hj hn
    have e : j = k := by omega
    subst e
    have e1 : wordEnd S j = j := word_off S j (by rw [h.bel, plain7]; simp)
    have e2 := (wordEnd_le T j hle).1
    exact ⟨fun h1 => by omega, fun _ => e1⟩
  | succ n ih =>
    intro j hj hn
    have hjk : j < k := by omega
    by_cases hb : blankB (byteAt T j) = false ∧ plainB (byteAt T j) = true
    · rw [word_on T j (by omega) hb.1 hb.2, word_on S j (by omega) (by rw [h.same j hjk]; exact hb.1) (by rw [h.same j hjk]; exact hb.2)]
      exact ih (j + 1) (by omega) (by omega)
    · rw [word_off T j (fun hh => hb hh.2), word_off S j (fun hh => hb (by rw [← h.same j hjk]; exact hh.2))]
      exact ⟨fun _ => rfl, fun h1 => by omega⟩

theorem extract_ins {T S : ByteArray} {k : Nat} (h : Ins T S k) (a z : Nat) (hz : z ≤ k) : S.extract a z = T.extract a z := by
  have hlt := h.lt
  have hle := h.le
  apply ByteArray.ext
  apply Array.ext
  · simp; omega
  · intro i h1 h2
    have hi : a + i < k := by simp at h2; omega
    have := h.same (a + i) hi
    rw [byteAt_of S _ (by omega), byteAt_of T _ (by omega)] at this
    have e : (S[a + i]'(by omega)).toNat = (T[a + i]'(by omega)).toNat := by omega
    have e2 : (S[a + i]'(by omega)) = (T[a + i]'(by omega)) := UInt8.toNat_inj.1 e
    simpa [ByteArray.getElem_eq_getElem_data] using e2

theorem run_bad {T S : ByteArray} {k : Nat} (h : Ins T S k) (a : Nat) (j : Nat) (hs : skip S j = a) (hw : wordEnd S a = k) : runF S j = badAt k := by
  simp only [runF, hs, hw]
  rw [if_pos ⟨h.lt, by rw [h.bel]; exact blank7⟩]
  rfl

theorem run_ins {T S : ByteArray} {k : Nat} (h : Ins T S k) (j : Nat) (hj : j ≤ k) : (runF S j = runF T j ∧ (runF T j).2 < k) ∨ runF S j = badAt k := by
  have hlt := h.lt
  have hle := h.le
  have sp := skip_ins h j hj
  have sl := skip_le T j (by omega)
  rcases Nat.lt_or_ge (skip T j) k with ha | ha
  · have es := sp.1 ha
    have wp := word_ins h (skip T j) (by omega)
    rcases Nat.lt_or_ge (wordEnd T (skip T j)) k with hz | hz
    · have ew := wp.1 hz
      left
      rcases runF_cases T j (by omega) with ⟨z, hz1, hw, hb, he⟩ | ⟨hs, he⟩ | ⟨z, hz1, hz2, hw, hb, he⟩
      · rw [hw] at ew hz
        rw [he]
        refine ⟨?_, hz⟩
        simp only [runF, es, ew]
        rw [if_pos ⟨by omega, by rw [h.same z hz]; exact hb⟩]
      · omega
      · rw [hw] at ew hz
        rw [he]
        refine ⟨?_, hz⟩
        simp only [runF, es, ew]
        have hne : ¬ (z < S.size ∧ blankB (byteAt S z) = false) := by
          rintro ⟨_, hbz⟩
          rw [h.same z hz] at hbz; exact hb ⟨by omega, hbz⟩
        rw [if_neg hne, if_neg (by omega), extract_ins h _ _ (by omega)]
    · right; exact run_bad h (skip T j) j es (wp.2 hz)
  · right
    have es := sp.2 ha
    have ew : wordEnd S k = k := word_off S k (by rw [h.bel, plain7]; simp)
    exact run_bad h k j es ew

theorem runF_fin2 (d : ByteArray) (k : Nat) (hk : k ≤ d.size) (h : (runF d k).1.fin = true) : (runF d k).2 = d.size := by
  rcases runF_cases d k hk with ⟨z, _, _, _, he⟩ | ⟨_, he⟩ | ⟨z, _, _, _, _, he⟩
  · rw [he] at h; cases h
  · rw [he]
  · rw [he] at h; cases h

theorem comment_ins {T S : ByteArray} {k : Nat} (h : Ins T S k) (j : Nat) (hj : j ≤ k) : (commentF S j = commentF T j ∧ (commentF T j).2 < k) ∨ commentF S j = badAt k := by
  have hlt := h.lt
  have hle := h.le
  suffices H : ∀ n j, j ≤ k → k - j ≤ n → (commentF S j = commentF T j ∧ (commentF T j).2 < k) ∨ commentF S j = badAt k from H _ j hj (Nat.le_refl _)
  clear hj j
  intro n
  induction n with
  | zero =>
    intro j hj hn
    rcases run_ins h j hj with ⟨er, hz⟩ | er
    · have := runF_le T j (by omega); omega
    · right; rw [comment_bad S j (by rw [er]; rfl) (by rw [er]; rfl), er]
  | succ n ih =>
    intro j hj hn
    rcases run_ins h j hj with ⟨er, hz⟩ | er
    · have rl := runF_le T j (by omega)
      have hf : (runF T j).1.fin = false := by
        cases hf : (runF T j).1.fin with
        | false => rfl
        | true => have := runF_fin2 T j (by omega) hf; omega
      cases hw : isWordF (runF T j).1 with
      | true =>
        have rl2 := rl.2.2 hw
        cases hx : ((runF T j).1.text.toList == [36, 41]) with
        | true =>
          left
          rw [comment_close T j hw hx, comment_close S j (by rw [er]; exact hw) (by rw [er]; exact hx), er]
          exact ⟨rfl, hz⟩
        | false =>
          cases hy : bracketF (runF T j).1.text with
          | true =>
            left
            rw [comment_nest T j hw hx hy, comment_nest S j (by rw [er]; exact hw) (by rw [er]; exact hx) (by rw [er]; exact hy), er]
            exact ⟨rfl, hz⟩
          | false =>
            rw [comment_on T j (by omega) hw hx hy, comment_on S j (by omega) (by rw [er]; exact hw) (by rw [er]; exact hx) (by rw [er]; exact hy), er]
            exact ih _ (by omega) (by omega)
      | false =>
        left
        rw [comment_bad T j hw hf, comment_bad S j (by rw [er]; exact hw) (by rw [er]; exact hf), er]
        exact ⟨rfl, hz⟩
    · right; rw [comment_bad S j (by rw [er]; rfl) (by rw [er]; rfl), er]

theorem next_ins {T S : ByteArray} {k : Nat} (h : Ins T S k) (j : Nat) (hj : j ≤ k) : (nextF S j = nextF T j ∧ (nextF T j).2 < k) ∨ nextF S j = badAt k := by
  have hlt := h.lt
  have hle := h.le
  suffices H : ∀ n j, j ≤ k → k - j ≤ n → (nextF S j = nextF T j ∧ (nextF T j).2 < k) ∨ nextF S j = badAt k from H _ j hj (Nat.le_refl _)
  clear hj j
  intro n
  induction n with
  | zero =>
    intro j hj hn
    rcases run_ins h j hj with ⟨er, hz⟩ | er
    · have := runF_le T j (by omega); omega
    · right; rw [next_plain S j (Or.inl (by rw [er]; rfl)), er]
  | succ n ih =>
    intro j hj hn
    rcases run_ins h j hj with ⟨er, hz⟩ | er
    · have rl := runF_le T j (by omega)
      by_cases hc : isWordF (runF T j).1 = true ∧ ((runF T j).1.text.toList == [36, 40]) = true
      · have rl2 := rl.2.2 hc.1
        rcases comment_ins h (runF T j).2 (by omega) with ⟨ec, hcz⟩ | ec
        · have cl := commentF_le T (runF T j).2 (by omega)
          cases hcw : isWordF (commentF T (runF T j).2).1 with
          | true =>
            rw [next_on T j (by omega) hc.1 hc.2 hcw, next_on S j (by omega) (by rw [er]; exact hc.1) (by rw [er]; exact hc.2) (by rw [er, ec]; exact hcw), er, ec]
            exact ih _ (by omega) (by omega)
          | false =>
            left
            rw [next_broken T j hc.1 hc.2 hcw, next_broken S j (by rw [er]; exact hc.1) (by rw [er]; exact hc.2) (by rw [er, ec]; exact hcw), er, ec]
            exact ⟨rfl, hcz⟩
        · right
          rw [next_broken S j (by rw [er]; exact hc.1) (by rw [er]; exact hc.2) (by rw [er, ec]; rfl), er, ec]
      · have hc' : isWordF (runF T j).1 = false ∨ ((runF T j).1.text.toList == [36, 40]) = false := by
          cases h1 : isWordF (runF T j).1 with
          | false => exact Or.inl rfl
          | true =>
            cases h2 : ((runF T j).1.text.toList == [36, 40]) with
            | false => exact Or.inr rfl
            | true => exact absurd ⟨h1, h2⟩ hc
        left
        rw [next_plain T j hc', next_plain S j (by rw [er]; exact hc'), er]
        exact ⟨rfl, hz⟩
    · right; rw [next_plain S j (Or.inl (by rw [er]; rfl)), er]

theorem nextF_fin2 (d : ByteArray) (k : Nat) (hk : k ≤ d.size) (h : (nextF d k).1.fin = true) : (nextF d k).2 = d.size := by
  suffices H : ∀ n k, k ≤ d.size → d.size - k ≤ n → (nextF d k).1.fin = true → (nextF d k).2 = d.size from H _ k hk (Nat.le_refl _) h
  clear hk h k
  intro n
  induction n with
  | zero =>
    intro k hk hn h
    have := nextF_le d k hk
    omega
  | succ n ih =>
    intro k hk hn h
    have rl := runF_le d k hk
    by_cases hc : isWordF (runF d k).1 = true ∧ ((runF d k).1.text.toList == [36, 40]) = true
    · have rl2 := rl.2.2 hc.1
      have cl := commentF_le d (runF d k).2 rl.2.1
      cases hcw : isWordF (commentF d (runF d k).2).1 with
      | true =>
        rw [next_on d k hk hc.1 hc.2 hcw] at h ⊢
        exact ih _ cl.2 (by omega) h
      | false =>
        rw [next_broken d k hc.1 hc.2 hcw, commentF_fin] at h; cases h
    · have hc' : isWordF (runF d k).1 = false ∨ ((runF d k).1.text.toList == [36, 40]) = false := by
        cases h1 : isWordF (runF d k).1 with
        | false => exact Or.inl rfl
        | true =>
          cases h2 : ((runF d k).1.text.toList == [36, 40]) with
          | false => exact Or.inr rfl
          | true => exact absurd ⟨h1, h2⟩ hc
      rw [next_plain d k hc'] at h ⊢
      exact runF_fin2 d k hk h

theorem runF_pos2 (d : ByteArray) (k : Nat) (hk : k ≤ d.size) : (runF d k).1.pos ≤ (runF d k).2 := by
  have a := skip_le d k hk
  rcases runF_cases d k hk with ⟨z, _, _, _, he⟩ | ⟨_, he⟩ | ⟨z, _, _, _, _, he⟩
  · rw [he]; exact Nat.le_refl _
  · rw [he]; exact Nat.le_refl _
  · rw [he]; simp only; omega
theorem nextF_pos2 (d : ByteArray) (k : Nat) (hk : k ≤ d.size) (h : isWordF (nextF d k).1 = true) : (nextF d k).1.pos ≤ (nextF d k).2 := by
  unfold nextF at h ⊢
  generalize d.size - k + 1 = f at h ⊢
  induction f generalizing k with
  | zero => simp [nextTo, isWordF] at h
  | succ f ih =>
    have rl := runF_le d k hk
    have cl := commentF_le d (runF d k).2 rl.2.1
    rw [nextTo] at h ⊢
    split at h
    · next h1 =>
      rw [if_pos h1]
      split at h
      · next h2 => rw [if_pos h2]; exact ih _ cl.2 h
      · next h2 => exact absurd h h2
    · next h1 => rw [if_neg h1]; exact runF_pos2 d k hk
theorem line_ins {T S : ByteArray} {k : Nat} (h : Ins T S k) (p : Nat) (hp : p ≤ k) : lineAt S p = lineAt T p ∧ colAt S p = colAt T p := by
  induction p with
  | zero => exact ⟨rfl, rfl⟩
  | succ p ih =>
    have i := ih (by omega)
    rw [lineAt, lineAt, colAt, colAt, h.same p (by omega), i.1, i.2]
    exact ⟨rfl, rfl⟩
theorem plAt_ins {T S : ByteArray} {k : Nat} (h : Ins T S k) (n : ByteArray) (p : Nat) (hp : p ≤ k) : plAt n S p = plAt n T p := by
  unfold plAt; rw [(line_ins h p hp).1, (line_ins h p hp).2]

theorem read_ins {T S : ByteArray} {k : Nat} (h : Ins T S k) (nm : ByteArray) (j : Nat) (d : Db) (hj : j ≤ k) (h0 : (readF nm T j d).1.1 = 0) : (readF nm S j d).1 = (1, k) := by
  have hlt := h.lt
  have hle := h.le
  suffices H : ∀ n j d, j ≤ k → k - j ≤ n → (readF nm T j d).1.1 = 0 → (readF nm S j d).1 = (1, k) from H _ j d hj (Nat.le_refl _) h0
  clear hj j d h0
  intro n
  induction n with
  | zero =>
    intro j d hj hn h0
    rcases next_ins h j hj with ⟨_, hz⟩ | en
    · have := nextF_le T j (by omega); omega
    · rw [read_bad nm S j d (by rw [en]; rfl) (by rw [en]; rfl), en]; rfl
  | succ n ih =>
    intro j d hj hn h0
    rcases next_ins h j hj with ⟨en, hz⟩ | en
    · have nl := nextF_le T j (by omega)
      cases hw : isWordF (nextF T j).1 with
      | true =>
        have nl2 := nl.2.2 hw
        have ep := plAt_ins h nm (nextF T j).1.pos (by have := nextF_pos2 T j (by omega) hw; omega)
        cases ht : ((takeF d (nextF T j).1.text (plAt nm T (nextF T j).1.pos)).1 == 0) with
        | true =>
          rw [read_on nm T j d (by omega) hw ht] at h0
          rw [read_on nm S j d (by omega) (by rw [en]; exact hw) (by rw [en, ep]; exact ht), en, ep]
          exact ih _ _ (by omega) (by omega) h0
        | false =>
          rw [read_rule nm T j d hw ht] at h0
          simp only at h0
          rw [h0] at ht; simp at ht
      | false =>
        cases hf : (nextF T j).1.fin with
        | true => have := nextF_fin2 T j (by omega) hf; omega
        | false =>
          rw [read_bad nm T j d hw hf] at h0
          have := isWordF_not hw hf
          simp only at h0
          rw [h0] at this; simp at this
    · rw [read_bad nm S j d (by rw [en]; rfl) (by rw [en]; rfl), en]; rfl

end Go.Proofs.YtcipkfhpcbddiaaGreat

/- What follows a closed text leaves the record ahead as it is. No walk. -/
namespace Go.Proofs.YtcipkfhpcbddiaaGreat
open Go.RowKit

theorem take_proof (d : Db) (x : ByteArray) (p : Pl) : (takeF d x p).2.proof = d.proof ∨ (takeF d x p).2.proof = [] ∨ (takeF d x p).2.proof = d.proof ++ [(x, p)] := by
  unfold takeF
  split
  · left
    unfold takeFirstF
    split
    · rfl
    · split
      · split
        · rfl
        · unfold endBothF; split <;> rfl
      · split
        · split <;> rfl
        · split
          · rfl
          · split
            · rfl
            · split
              · rfl
              · unfold takeLabelF
                repeat' split
                all_goals rfl
  · split
    · left; unfold takeKeywordF
      repeat' split
      all_goals rfl
    · split
      · unfold endF
        split
        · left; rfl
        · split
          · left; rfl
          · right; left; rfl
      · split
        · left; unfold beginProofF; split <;> rfl
        · split
          · left; rfl
          · split
            · right; right; rfl
            · split
              · left; rfl
              · left; rfl
theorem take_sts (d : Db) (x : ByteArray) (p : Pl) : (takeF d x p).2.sts = d.sts ∨ (∃ y ∈ d.rbl, (takeF d x p).2.sts = endSts d.sts y) ∨ ((takeF d x p).2.sts = d.sts ++ [⟨d.kind, d.label, d.symbols, d.proof, p, 0⟩] ∧ 0 < d.symbols.length) := by
  unfold takeF
  split
  · unfold takeFirstF
    split
    · left; rfl
    · split
      · split
        · left; rfl
        · unfold endBothF
          split
          · left; rfl
          · next y hy => right; left; exact ⟨y, List.mem_of_getLast? hy, rfl⟩
      · split
        · split <;> (left; rfl)
        · split
          · left; rfl
          · split
            · left; rfl
            · split
              · left; rfl
              · left; unfold takeLabelF
                repeat' split
                all_goals rfl
  · split
    · left; unfold takeKeywordF
      repeat' split
      all_goals rfl
    · split
      · unfold endF
        split
        · left; rfl
        · next hl =>
          have hpos : 0 < d.symbols.length := by
            unfold leastF at hl
            split at hl <;> omega
          split
          · left; rfl
          · unfold declareF
            split
            · left; rfl
            · split
              · left; rfl
              · right; right
                refine ⟨?_, hpos⟩
                unfold typeIt
                split <;> rfl
      · split
        · left; unfold beginProofF; split <;> rfl
        · split
          · left; rfl
          · split
            · left; rfl
            · split
              · left; rfl
              · left; rfl

theorem take_rbl (d : Db) (x : ByteArray) (p : Pl) : (takeF d x p).2.rbl = d.rbl ∨ (takeF d x p).2.rbl = d.rbl.dropLast ∨ (takeF d x p).2.rbl = d.rbl ++ [d.sts.length] := by
  unfold takeF
  split
  · unfold takeFirstF
    split
    · right; right; rfl
    · split
      · split
        · left; rfl
        · unfold endBothF
          split
          · left; rfl
          · right; left; rfl
      · split
        · split <;> (left; rfl)
        · split
          · left; rfl
          · split
            · left; rfl
            · split
              · left; rfl
              · left; unfold takeLabelF
                repeat' split
                all_goals rfl
  · left
    split
    · unfold takeKeywordF
      repeat' split
      all_goals rfl
    · split
      · unfold endF
        split
        · rfl
        · split
          · rfl
          · unfold declareF
            split
            · rfl
            · split
              · rfl
              · unfold typeIt; split <;> rfl
      · split
        · unfold beginProofF; split <;> rfl
        · split
          · rfl
          · split
            · rfl
            · split <;> rfl

/-- The record begins with S, and no open block reaches into it. -/
structure Ext (S : List St) (d : Db) : Prop where
  pre : ∃ m, d.sts = S ++ m
  rbl : ∀ y ∈ d.rbl, S.length ≤ y
theorem endSts_ext (S m : List St) (y : Nat) (h : S.length ≤ y) : ∃ m', endSts (S ++ m) y = S ++ m' := by
  refine ⟨(endSts (S ++ m) y).drop S.length, ?_⟩
  have e : (endSts (S ++ m) y).take S.length = S := by
    apply List.ext_getElem?
    intro i
    rw [List.getElem?_take]
    split
    · next hi =>
      unfold endSts endTo
      rw [List.getElem?_mapIdx, List.getElem?_append_left hi, List.getElem?_eq_getElem hi]
      rw [Option.map_some, if_neg (by omega)]
    · rw [List.getElem?_eq_none]; omega
  conv => lhs; rw [← List.take_append_drop S.length (endSts (S ++ m) y), e]
theorem Ext.take {S : List St} {d : Db} (h : Ext S d) (x : ByteArray) (p : Pl) : Ext S (takeF d x p).2 := by
  obtain ⟨m, hm⟩ := h.pre
  refine ⟨?_, ?_⟩
  · rcases take_sts d x p with e | ⟨y, hy, e⟩ | ⟨e, _⟩
    · exact ⟨m, by rw [e, hm]⟩
    · rw [e, hm]; exact endSts_ext S m y (h.rbl y hy)
    · exact ⟨m ++ [_], by rw [e, hm, List.append_assoc]⟩
  · rcases take_rbl d x p with e | e | e
    · rw [e]; exact h.rbl
    · rw [e]; intro y hy; exact h.rbl y (List.dropLast_subset _ hy)
    · rw [e]
      intro y hy
      rcases List.mem_append.1 hy with hy | hy
      · exact h.rbl y hy
      · rw [List.mem_singleton.1 hy, hm, List.length_append]; omega
theorem readTo_ext {S : List St} (n s : ByteArray) (f : Nat) : ∀ k d, Ext S d → Ext S (readTo n s f k d).2 := by
  induction f with
  | zero => intro k d h; exact h
  | succ f ih =>
    intro k d h
    rw [readTo]
    split
    · split
      · exact ih _ _ (h.take _ _)
      · exact h.take _ _
    · split
      · split <;> exact h
      · exact h
theorem readF_ext {S : List St} (n s : ByteArray) (k : Nat) (d : Db) (h : Ext S d) : Ext S (readF n s k d).2 := readTo_ext n s _ k d h
theorem readTo_bnd (n s : ByteArray) (f : Nat) : ∀ k d, (∃ m, Bnd d m) → ∃ m, Bnd (readTo n s f k d).2 m := by
  induction f with
  | zero => intro k d h; exact h
  | succ f ih =>
    intro k d h
    have ht := fun x p => (show ∃ m, Bnd (takeF d x p).2 m from h.elim fun m hm => ⟨m + 1, hm.take x p⟩)
    rw [readTo]
    split
    · split
      · exact ih _ _ (ht _ _)
      · exact ht _ _
    · split
      · split <;> exact h
      · exact h
theorem Ext.begin {d : Db} {m : Nat} (h : Bnd d m) (ho : openF d = false) : Ext d.sts d := by
  refine ⟨⟨[], by simp⟩, fun y hy => ?_⟩
  have hs := h.same
  have hb : d.blocks.length = 0 := by
    unfold openF at ho
    simp only [Bool.or_eq_false_iff, decide_eq_false_iff_not] at ho
    omega
  rw [hb] at hs
  rw [List.eq_nil_of_length_eq_zero hs] at hy
  cases hy
theorem more_sts (T c : ByteArray) (hT : Fine T) : ∃ m, (rdM (T ++ ⟨#[10]⟩ ++ c)).2.sts = (rdM T).2.sts ++ m := by
  have he := read_pre (pre_of T c) ⟨#[109]⟩ 0 emptyDb (Nat.zero_le _) hT.ok
  obtain ⟨m, hm⟩ := readTo_bnd ⟨#[109]⟩ T (T.size - 0 + 1) 0 emptyDb ⟨0, Bnd.empty⟩
  have x := readF_ext ⟨#[109]⟩ (T ++ ⟨#[10]⟩ ++ c) (T.size + 1) _ (Ext.begin (d := (readF ⟨#[109]⟩ T 0 emptyDb).2) hm he.1)
  rw [← he.2] at x
  exact x.pre

end Go.Proofs.YtcipkfhpcbddiaaGreat

/- Rows of a report. -/
namespace Go.Proofs.YtcipkfhpcbddiaaGreat
open Go.RowKit

structure Rw where
  label : ByteArray
  verdict : Int
  why : Int
  at_ : Pl
def rwV (r : Rw) : List Value := [.string r.label, .int .i64 r.verdict, .int .i64 r.why, .string r.at_.file, .int .i64 r.at_.line, .int .i64 r.at_.col]
def rwsV (l : List Rw) : List Value := l.flatMap rwV
def rowR (l : List Rw) : Row := ⟨59, 6, l.length, rwsV l⟩
def noPl : Pl := ⟨⟨#[]⟩, 0, 0⟩
def zRw : Rw := ⟨⟨#[]⟩, 0, 0, noPl⟩
theorem rowR_snoc (l : List Rw) (s : Rw) : (⟨(rowR l).e, (rowR l).size, (rowR l).n + 1, (rowR l).xs ++ rwV s⟩ : Row) = rowR (l ++ [s]) := by simp [rowR, rwsV]
theorem rwV_one (s : Rw) : ∀ u ∈ rwV s, u.oneCell' = true := by
  intro u hu
  simp only [rwV, List.mem_cons, List.not_mem_nil, or_false] at hu
  rcases hu with rfl | rfl | rfl | rfl | rfl | rfl <;> rfl
theorem infoR : (Tryz.prog.info? 59).map (fun i => (i.zero, i.size, i.bytes)) = some (some (.agg #[.string ⟨#[]⟩, .int .i64 0, .int .i64 0, .string ⟨#[]⟩, .int .i64 0, .int .i64 0]), 6, 64) := by kernel_rfl
theorem rwsV_len (l : List Rw) : (rwsV l).length = l.length * 6 := by
  induction l with
  | nil => rfl
  | cons x r ih => have e : rwsV (x :: r) = rwV x ++ rwsV r := rfl
                   rw [e, List.length_append, ih]; simp [rwV]; omega
theorem rwsV_at (l : List Rw) (k : Nat) (hk : k < l.length) (j : Nat) (hj : j < 6) : (rwsV l)[k * 6 + j]? = (rwV l[k])[j]? := by
  induction l generalizing k with
  | nil => simp at hk
  | cons s r ih =>
    have e : rwsV (s :: r) = rwV s ++ rwsV r := rfl
    rw [e]
    cases k with
    | zero => rw [List.getElem?_append_left (by simp [rwV]; omega)]; simp
    | succ k =>
      rw [List.getElem?_append_right (by simp [rwV]; omega)]
      have e2 : (k + 1) * 6 + j - (rwV s).length = k * 6 + j := by simp [rwV]; omega
      rw [e2, ih k (by simpa using hk)]; rfl

end Go.Proofs.YtcipkfhpcbddiaaGreat
