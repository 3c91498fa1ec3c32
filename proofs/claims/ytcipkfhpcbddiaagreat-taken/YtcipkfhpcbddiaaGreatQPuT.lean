import Derived.Test.YtcipkfhpcbddiaaGreatQPuS
/- Parted: a comment between, or the text in a file of its own. No walk. -/
namespace Go.Proofs.YtcipkfhpcbddiaaGreat
open Go.RowKit

theorem readGo_congr (fs : List (ByteArray × ByteArray)) (f x k j : Nat) (bg : List Bool) (d : Db) (h : nextF (fileDt fs x) k = nextF (fileDt fs x) j) : readGo fs f x k bg d = readGo fs f x j bg d := by
  cases f with
  | zero => rfl
  | succ f => rw [readGo, readGo, h]
theorem step_plain (fs : List (ByteArray × ByteArray)) (f x k : Nat) (bg : List Bool) (d : Db) (hn : ((nextF (fileDt fs x) k).1.text.toList == [36, 91]) = false) :
    stepR fs f x k bg d = ((if ((takeF d (nextF (fileDt fs x) k).1.text (plAt (fileNm fs x) (fileDt fs x) (nextF (fileDt fs x) k).1.pos)).1 == 0) = true then noFlt else ((takeF d (nextF (fileDt fs x) k).1.text (plAt (fileNm fs x) (fileDt fs x) (nextF (fileDt fs x) k).1.pos)).1, plAt (fileNm fs x) (fileDt fs x) (nextF (fileDt fs x) k).1.pos), bg, (takeF d (nextF (fileDt fs x) k).1.text (plAt (fileNm fs x) (fileDt fs x) (nextF (fileDt fs x) k).1.pos)).2), (nextF (fileDt fs x) k).2) := by
  unfold stepR wordR
  rw [hn]; simp
/-- As go_plain, where no word is an inclusion from a place on. -/
theorem go_from (fs : List (ByteArray × ByteArray)) (x a : Nat) (hni : ∀ k, a ≤ k → k ≤ (fileDt fs x).size → isWordF (nextF (fileDt fs x) k).1 = true → ((nextF (fileDt fs x) k).1.text.toList == [36, 91]) = false) (f : Nat) : ∀ k bg d, a ≤ k → k ≤ (fileDt fs x).size → (fileDt fs x).size - k + 1 ≤ f →
    readGo fs f x k bg d = (fltOf (fileNm fs x) (fileDt fs x) (readF (fileNm fs x) (fileDt fs x) k d).1, bg, (readF (fileNm fs x) (fileDt fs x) k d).2) := by
  induction f with
  | zero => intro k bg d ha hk hf; omega
  | succ f ih =>
    intro k bg d ha hk hf
    have hl := nextF_le (fileDt fs x) k hk
    cases h1 : isWordF (nextF (fileDt fs x) k).1 with
    | true =>
      have hl2 := hl.2.2 h1
      have es := step_plain fs f x k bg d (hni k ha hk h1)
      cases h2 : ((takeF d (nextF (fileDt fs x) k).1.text (plAt (fileNm fs x) (fileDt fs x) (nextF (fileDt fs x) k).1.pos)).1 == 0) with
      | true =>
        rw [go_on fs f x k bg d h1 (by rw [es, h2]; rfl), es, ih _ _ _ (by omega) hl.2.1 (by omega), ← read_on _ _ k d hk h1 h2]
      | false =>
        rw [go_stop fs f x k bg d h1 (by rw [es, h2]; simpa using h2), es, read_rule _ _ k d h1 h2]
        simp only [fltOf, h2]
    | false =>
      cases h2 : (nextF (fileDt fs x) k).1.fin with
      | true =>
        cases h3 : openF d with
        | false => rw [go_end fs f x k bg d h1 h2 h3, read_end _ _ k d h1 h2 h3]; rfl
        | true => rw [go_bad fs f x k bg d h1 (by simp [h3]), read_open _ _ k d h1 h2 h3]; simp [fltOf, itemFlt, h2]
      | false =>
        have h4 := isWordF_not h1 h2
        rw [go_bad fs f x k bg d h1 (by simp [h2]), read_bad _ _ k d h1 h2]; simp [fltOf, itemFlt, h2, h4]
/-- A text at a file's beginning: the reading goes on behind it. -/
theorem go_pre (fs : List (ByteArray × ByteArray)) (x : Nat) (T : ByteArray) (hp : Pre T (fileDt fs x)) (hni : NoInc T) : ∀ n f k bg d, T.size - k ≤ n → k ≤ T.size → (readF (fileNm fs x) T k d).1.1 = 0 → T.size - k + 1 ≤ f →
    ∃ f', f ≤ f' + (T.size - k) ∧ readGo fs f x k bg d = readGo fs f' x (T.size + 1) bg (readF (fileNm fs x) T k d).2 := by
  have hlt := hp.lt
  intro n
  induction n with
  | zero =>
    intro f k bg d hn hk h0 hf
    have e : k = T.size := by omega
    subst e
    have hr : runF T T.size = (⟨⟨#[]⟩, 0, true, T.size⟩, T.size) := runF_no T T.size (Nat.le_refl _) (Nat.le_refl _)
    have hn' : nextF T T.size = runF T T.size := next_plain T _ (Or.inl (by rw [hr]; rfl))
    have np := next_pre hp T.size (Nat.le_refl _) (by rw [hn', hr]; simp)
    have hw : isWordF (nextF T T.size).1 = false := by rw [hn', hr]; rfl
    have hfn : (nextF T T.size).1.fin = true := by rw [hn', hr]
    cases ho : openF d with
    | true => rw [read_open _ T _ d hw hfn ho] at h0; simp at h0
    | false => rw [read_end _ T _ d hw hfn ho]; exact ⟨f, by omega, readGo_congr fs f x _ _ bg d (np.2 hfn)⟩
  | succ n ih =>
    intro f k bg d hn hk h0 hf
    have nl := nextF_le T k hk
    cases hw : isWordF (nextF T k).1 with
    | true =>
      have np := next_pre hp k hk (by rw [isWordF_eq hw]; simp)
      have hfn : (nextF T k).1.fin = false := by rw [isWordF_eq hw]
      have en := np.1 hfn
      have nl2 := nl.2.2 hw
      have ep := plAt_pre hp (fileNm fs x) (nextF T k).1.pos (nextF_pos T k hk).2
      cases ht : ((takeF d (nextF T k).1.text (plAt (fileNm fs x) T (nextF T k).1.pos)).1 == 0) with
      | true =>
        rw [read_on _ T k d hk hw ht] at h0 ⊢
        cases f with
        | zero => omega
        | succ f =>
          have es := step_plain fs f x k bg d (by rw [en]; exact hni k hk hw)
          rw [en, ep, ht] at es
          obtain ⟨f', h1, h2⟩ := ih f (nextF T k).2 bg (takeF d (nextF T k).1.text (plAt (fileNm fs x) T (nextF T k).1.pos)).2 (by omega) nl.2.1 h0 (by omega)
          refine ⟨f', by omega, ?_⟩
          rw [go_on fs f x k bg d (by rw [en]; exact hw) (by rw [es]; rfl), es]
          exact h2
      | false =>
        rw [read_rule _ T k d hw ht] at h0
        simp only at h0
        rw [h0] at ht; simp at ht
    | false =>
      cases hfn : (nextF T k).1.fin with
      | true =>
        cases ho : openF d with
        | true => rw [read_open _ T k d hw hfn ho] at h0; simp at h0
        | false =>
          have h3 : (nextF T k).1.rule ≠ 3 := by rw [nextF_fin T k hfn]; simp
          rw [read_end _ T k d hw hfn ho]
          exact ⟨f, by omega, readGo_congr fs f x _ _ bg d ((next_pre hp k hk h3).2 hfn)⟩
      | false =>
        rw [read_bad _ T k d hw hfn] at h0
        have := isWordF_not hw hfn
        simp only at h0
        rw [h0] at this; simp at this

/-- A line moved. -/
def πL (δ : Int) (p : Pl) : Pl := if (p.file.toList == []) = true then p else { p with line := p.line + δ }
/-- The file's name changed. -/
def πF (p : Pl) : Pl := if (p.file.toList == []) = true then p else { p with file := ⟨#[105]⟩ }
theorem πL_map (δ : Int) : Pmap (πL δ) := by
  refine ⟨?_, ?_, ?_⟩
  · unfold πL noPl; rw [if_pos (by decide +kernel)]
  · intro p c; unfold πL; simp only; split <;> rfl
  · intro p; unfold πL; split <;> rfl
theorem πF_map : Pmap πF := by
  refine ⟨?_, ?_, ?_⟩
  · unfold πF noPl; rw [if_pos (by decide +kernel)]
  · intro p c; unfold πF; simp only; split <;> rfl
  · intro p; unfold πF; split <;> rfl
theorem id_map : Pmap (fun p => p) := ⟨rfl, fun _ _ => rfl, fun _ => rfl⟩
theorem mapSt_id (s : St) : mapSt (fun p => p) s = s := by
  unfold mapSt mapWd
  simp
theorem mapSts_two (π₁ π₂ : Pl → Pl) (l : List St) : mapSts (fun i => if i < l.length then π₁ else π₂) l = l.map (mapSt π₁) := by
  apply List.ext_getElem?
  intro i
  rw [mapSts_get, List.getElem?_map]
  rcases Nat.lt_or_ge i l.length with h | h
  · rw [if_pos h]
  · rw [List.getElem?_eq_none h]; rfl
theorem mapSts_const (π : Pl → Pl) (l : List St) : mapSts (fun _ => π) l = l.map (mapSt π) := by
  apply List.ext_getElem?
  intro i
  rw [mapSts_get, List.getElem?_map]
theorem noLeft_empty : NoLeft emptyDb := fun _ => rfl
theorem noLeft_read (n s : ByteArray) (f : Nat) : ∀ k d, NoLeft d → NoLeft (readTo n s f k d).2 := by
  induction f with
  | zero => intro k d h; exact h
  | succ f ih =>
    intro k d h
    rw [readTo]
    split
    · split
      · exact ih _ _ (noLeft_take h _ _)
      · exact noLeft_take h _ _
    · split
      · split <;> exact h
      · exact h
/-- What a text leaves that is well-formed. -/
theorem Fine.left {T : ByteArray} (h : Fine T) : openF (rdM T).2 = false ∧ (rdM T).2.proof = [] ∧ NoLeft (rdM T).2 := by
  have nl : NoLeft (rdM T).2 := noLeft_read ⟨#[109]⟩ T _ 0 emptyDb noLeft_empty
  have ho : openF (rdM T).2 = false := (read_pre (pre_of T ⟨#[]⟩) ⟨#[109]⟩ 0 emptyDb (Nat.zero_le _) h.ok).1
  refine ⟨ho, nl ?_, nl⟩
  unfold openF at ho
  simp only [Bool.or_eq_false_iff] at ho
  simpa using ho.1
theorem map_closed (π₁ π₂ : Pl → Pl) (d : Db) (h : d.proof = []) : mapDb (fun i => if i < d.sts.length then π₁ else π₂) d = { d with sts := d.sts.map (mapSt π₁) } := by
  rw [mapDb_closed _ d h, mapSts_two]

/-- The chunk behind the text, in U at T's end, in V elsewhere. -/
structure Tail (T c V : ByteArray) (a' : Nat) : Prop where
  size : V.size = a' + c.size
  same : ∀ i, i < c.size → byteAt V (a' + i) = byteAt c i
theorem tail_shf (T c V : ByteArray) (a' : Nat) (h : Tail T c V a') : Shf (T ++ ⟨#[10]⟩ ++ c) V (T.size + 1) a' ∧ Shf c V 0 a' := by
  have sz : (T ++ ⟨#[10]⟩ ++ c).size = T.size + 1 + c.size := by rw [ByteArray.size_append, ByteArray.size_append, lf_size]
  refine ⟨⟨by omega, by rw [h.size]; omega, fun k hk hl => ?_⟩, ⟨by omega, by rw [h.size]; omega, fun k hk hl => ?_⟩⟩
  · obtain ⟨i, rfl⟩ : ∃ i, k = T.size + 1 + i := ⟨k - (T.size + 1), by omega⟩
    rw [pre_right T c i (by omega), show T.size + 1 + i - (T.size + 1) + a' = a' + i by omega, h.same i (by omega)]
  · rw [show k - 0 + a' = a' + k by omega, h.same k hl]
theorem tail_noInc (T c V : ByteArray) (a' : Nat) (h : Tail T c V a') (hc : holdsF c = false) : ∀ k, a' ≤ k → k ≤ V.size → isWordF (nextF V k).1 = true → ((nextF V k).1.text.toList == [36, 91]) = false := by
  intro k hk hl hw
  have s := (tail_shf T c V a' h).2
  have e := next_sh s (k - a') (Nat.zero_le _) (by have := h.size; omega)
  rw [show k - a' - 0 + a' = k by omega] at e
  rw [e] at hw ⊢
  exact noInc_of c hc (k - a') (by have := h.size; omega) hw
theorem line_U (T c : ByteArray) : lineAt (T ++ ⟨#[10]⟩ ++ c) (T.size + 1) = lineAt T T.size + 1 ∧ colAt (T ++ ⟨#[10]⟩ ++ c) (T.size + 1) = 1 := by
  have pr := pre_of T c
  rw [lineAt, colAt, pr.lf, (line_pre pr T.size (Nat.le_refl _)).1]
  exact ⟨by simp, by simp⟩
/-- What is read of the chunk in V, from a database that is T's with its places changed. -/
theorem tail_read (T c V : ByteArray) (a' : Nat) (hT : Fine T) (h : Tail T c V a') (hcol : colAt V a' = 1) (π₁ : Pl → Pl) :
    readF ⟨#[109]⟩ V a' { (rdM T).2 with sts := (rdM T).2.sts.map (mapSt π₁) } =
      (shQ (T.size + 1) a' (rdM (T ++ ⟨#[10]⟩ ++ c)).1, mapDb (fun i => if i < (rdM T).2.sts.length then π₁ else πL (lineAt V a' - (lineAt T T.size + 1))) (rdM (T ++ ⟨#[10]⟩ ++ c)).2) := by
  have sz : (T ++ ⟨#[10]⟩ ++ c).size = T.size + 1 + c.size := by rw [ByteArray.size_append, ByteArray.size_append, lf_size]
  have s := (tail_shf T c V a' h).1
  obtain ⟨-, hp, hl⟩ := hT.left
  have lu := line_U T c
  have rp := (read_pre (pre_of T c) ⟨#[109]⟩ 0 emptyDb (Nat.zero_le _) hT.ok).2
  have rs := read_sh s ⟨#[109]⟩ ⟨#[109]⟩ (fun i => if i < (rdM T).2.sts.length then π₁ else πL (lineAt V a' - (lineAt T T.size + 1))) (rdM T).2.sts.length (fun q hq hq2 i hi => by
    have ls := line_sh s (by rw [hcol, lu.2]) q hq hq2
    simp only [if_neg (show ¬ i < (rdM T).2.sts.length by omega)]
    unfold πL plAt
    rw [if_neg (show ¬ ((⟨#[109]⟩ : ByteArray).toList == []) = true by decide +kernel), ls.1, ls.2, lu.1]) (T.size + 1) (rdM T).2 (Nat.le_refl _) (by omega) (Nat.le_refl _) hl
  rw [show T.size + 1 - (T.size + 1) + a' = a' by omega, map_closed _ _ _ hp] at rs
  rw [rs]
  have e : rdM (T ++ ⟨#[10]⟩ ++ c) = readF ⟨#[109]⟩ (T ++ ⟨#[10]⟩ ++ c) (T.size + 1) (rdM T).2 := rp
  rw [← e]

end Go.Proofs.YtcipkfhpcbddiaaGreat
