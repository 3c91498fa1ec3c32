/- Our texts: PuT, PuU, PuV, PuP, SeeC, KEq2, Prt1, Moved, PrtY. -/
import Derived.Test.YtcipkfhpcbddiaaGreatG10
import Derived.Test.YtcipkfhpcbddiaaGreatG19
import Derived.Test.YtcipkfhpcbddiaaGreatG20
/- Parted: a comment between, or the text in a file of its own. No walk. -/
namespace Go.Proofs.YtcipkfhpcbddiaaGreat
open Go.RowKit

theorem readGo_congr (fs : List (ByteArray × ByteArray)) (f x k j : Nat) (bg : List Bool) (d : Db) (h : nextF (fileDt fs x) k = nextF (fileDt fs x) j) : readGo fs f x k bg d = readGo fs f x j bg d := by
  cases f with
  | zero => rfl
  | succ f => rw [readGo, readGo, h]
theorem step_plain (fs : List (ByteArray × ByteArray)) (f x k : Nat) (bg : List Bool) (d : Db) (hn : ((nextF (fileDt fs x) k).1.text.toList == [36, 91]) = false) :
    stepR fs f x k bg d = ((if ((takeF d (nextF (fileDt fs x) k).1.text (plAt (fileNm fs x) (fileDt fs x) (nextF (fileDt fs x) k).1.pos)).1 == 0) = true then noFlt else ((takeF d (nextF (fileDt fs x) k).1.text (plAt (fileNm fs x) (fileDt fs x) (nextF (fileDt fs x) k).1.pos)).1, plAt (fileNm fs x) (fileDt fs x) (nextF (fileDt fs x) k).1.pos), bg, (takeF d (nextF (fileDt fs x) k).1.text (plAt (fileNm fs x) (fileDt fs x) (nextF (fileDt fs x) k).1.pos)).2), (nextF (fileDt fs x) k).2) := by
  unfold stepR wordR
  rw [hn]; simp
/-- As go_plain, where no word is an inclusion from a place on. -/
theorem go_from (fs : List (ByteArray × ByteArray)) (x a : Nat) (hni : ∀ k, a ≤ k → k ≤ (fileDt fs x).size → isWordF (nextF (fileDt fs x) k).1 = true → ((nextF (fileDt fs x) k).1.text.toList == [36, 91]) = false) (f : Nat) : ∀ k bg d, a ≤ k → k ≤ (fileDt fs x).size → (fileDt fs x).size - k + 1 ≤ f →
    readGo fs f x k bg d = (fltOf (fileNm fs x) (fileDt fs x) (readF (fileNm fs x) (fileDt fs x) k d).1, bg, (readF (fileNm fs x) (fileDt fs x) k d).2) := by
  induction f with
  | zero => intro k bg d ha hk hf; omega
  | succ f ih =>
    intro k bg d ha hk hf
    have hl := nextF_le (fileDt fs x) k hk
    cases h1 : isWordF (nextF (fileDt fs x) k).1 with
    | true =>
      have hl2 := hl.2.2 h1
      have es := step_plain fs f x k bg d (hni k ha hk h1)
      cases h2 : ((takeF d (nextF (fileDt fs x) k).1.text (plAt (fileNm fs x) (fileDt fs x) (nextF (fileDt fs x) k).1.pos)).1 == 0) with
      | true =>
        rw [go_on fs f x k bg d h1 (by rw [es, h2]; rfl), es, ih _ _ _ (by omega) hl.2.1 (by omega), ← read_on _ _ k d hk h1 h2]
      | false =>
        rw [go_stop fs f x k bg d h1 (by rw [es, h2]; simpa using h2), es, read_rule _ _ k d h1 h2]
        simp only [fltOf, h2]
    | false =>
      cases h2 : (nextF (fileDt fs x) k).1.fin with
      | true =>
        cases h3 : openF d with
        | false => rw [go_end fs f x k bg d h1 h2 h3, read_end _ _ k d h1 h2 h3]; rfl
        | true => rw [go_bad fs f x k bg d h1 (by simp [h3]), read_open _ _ k d h1 h2 h3]; simp [fltOf, itemFlt, h2]
      | false =>
        have h4 := isWordF_not h1 h2
        rw [go_bad fs f x k bg d h1 (by simp [h2]), read_bad _ _ k d h1 h2]; simp [fltOf, itemFlt, h2, h4]
/-- A text at a file's beginning: the reading goes on behind it. -/
theorem go_pre (fs : List (ByteArray × ByteArray)) (x : Nat) (T : ByteArray) (hp : Pre T (fileDt fs x)) (hni : NoInc T) : ∀ n f k bg d, T.size - k ≤ n → k ≤ T.size → (readF (fileNm fs x) T k d).1.1 = 0 → T.size - k + 1 ≤ f →
    ∃ f', f ≤ f' + (T.size - k) ∧ readGo fs f x k bg d = readGo fs f' x (T.size + 1) bg (readF (fileNm fs x) T k d).2 := by
  have hlt := hp.lt
  intro n
  induction n with
  | zero =>
    intro f k bg d hn hk h0 hf
    have e : k = T.size := by omega
    subst e
    have hr : runF T T.size = (⟨⟨#[]⟩, 0, true, T.size⟩, T.size) := runF_no T T.size (Nat.le_refl _) (Nat.le_refl _)
    have hn' : nextF T T.size = runF T T.size := next_plain T _ (Or.inl (by rw [hr]; rfl))
    have np := next_pre hp T.size (Nat.le_refl _) (by rw [hn', hr]; simp)
    have hw : isWordF (nextF T T.size).1 = false := by rw [hn', hr]; rfl
    have hfn : (nextF T T.size).1.fin = true := by rw [hn', hr]
    cases ho : openF d with
    | true => rw [read_open _ T _ d hw hfn ho] at h0; simp at h0
    | false => rw [read_end _ T _ d hw hfn ho]; exact ⟨f, by omega, readGo_congr fs f x _ _ bg d (np.2 hfn)⟩
  | succ n ih =>
    intro f k bg d hn hk h0 hf
    have nl := nextF_le T k hk
    cases hw : isWordF (nextF T k).1 with
    | true =>
      have np := next_pre hp k hk (by rw [isWordF_eq hw]; simp)
      have hfn : (nextF T k).1.fin = false := by rw [isWordF_eq hw]
      have en := np.1 hfn
      have nl2 := nl.2.2 hw
      have ep := plAt_pre hp (fileNm fs x) (nextF T k).1.pos (nextF_pos T k hk).2
      cases ht : ((takeF d (nextF T k).1.text (plAt (fileNm fs x) T (nextF T k).1.pos)).1 == 0) with
      | true =>
        rw [read_on _ T k d hk hw ht] at h0 ⊢
        cases f with
        | zero => omega
        | succ f =>
          have es := step_plain fs f x k bg d (by rw [en]; exact hni k hk hw)
          rw [en, ep, ht] at es
          obtain ⟨f', h1, h2⟩ := ih f (nextF T k).2 bg (takeF d (nextF T k).1.text (plAt (fileNm fs x) T (nextF T k).1.pos)).2 (by omega) nl.2.1 h0 (by omega)
          refine ⟨f', by omega, ?_⟩
          rw [go_on fs f x k bg d (by rw [en]; exact hw) (by rw [es]; rfl), es]
          exact h2
      | false =>
        rw [read_rule _ T k d hw ht] at h0
        simp only at h0
        rw [h0] at ht; simp at ht
    | false =>
      cases hfn : (nextF T k).1.fin with
      | true =>
        cases ho : openF d with
        | true => rw [read_open _ T k d hw hfn ho] at h0; simp at h0
        | false =>
          have h3 : (nextF T k).1.rule ≠ 3 := by rw [nextF_fin T k hfn]; simp
          rw [read_end _ T k d hw hfn ho]
          exact ⟨f, by omega, readGo_congr fs f x _ _ bg d ((next_pre hp k hk h3).2 hfn)⟩
      | false =>
        rw [read_bad _ T k d hw hfn] at h0
        have := isWordF_not hw hfn
        simp only at h0
        rw [h0] at this; simp at this

/-- A line moved. -/
def πL (δ : Int) (p : Pl) : Pl := if (p.file.toList == []) = true then p else { p with line := p.line + δ }
/-- The file's name changed. -/
def πF (p : Pl) : Pl := if (p.file.toList == []) = true then p else { p with file := ⟨#[105]⟩ }
theorem πL_map (δ : Int) : Pmap (πL δ) := by
  refine ⟨?_, ?_, ?_⟩
  · unfold πL noPl; rw [if_pos (by decide +kernel)]
  · intro p c; unfold πL; simp only; split <;> rfl
  · intro p; unfold πL; split <;> rfl
theorem πF_map : Pmap πF := by
  refine ⟨?_, ?_, ?_⟩
  · unfold πF noPl; rw [if_pos (by decide +kernel)]
  · intro p c; unfold πF; simp only; split <;> rfl
  · intro p; unfold πF; split <;> rfl
theorem id_map : Pmap (fun p => p) := ⟨rfl, fun _ _ => rfl, fun _ => rfl⟩
theorem mapSt_id (s : St) : mapSt (fun p => p) s = s := by
  unfold mapSt mapWd
  simp
theorem mapSts_two (π₁ π₂ : Pl → Pl) (l : List St) : mapSts (fun i => if i < l.length then π₁ else π₂) l = l.map (mapSt π₁) := by
  apply List.ext_getElem?
  intro i
  rw [mapSts_get, List.getElem?_map]
  rcases Nat.lt_or_ge i l.length with h | h
  · rw [if_pos h]
  · rw [List.getElem?_eq_none h]; rfl
theorem mapSts_const (π : Pl → Pl) (l : List St) : mapSts (fun _ => π) l = l.map (mapSt π) := by
  apply List.ext_getElem?
  intro i
  rw [mapSts_get, List.getElem?_map]
theorem noLeft_empty : NoLeft emptyDb := fun _ => rfl
theorem noLeft_read (n s : ByteArray) (f : Nat) : ∀ k d, NoLeft d → NoLeft (readTo n s f k d).2 := by
  induction f with
  | zero => intro k d h; exact h
  | succ f ih =>
    intro k d h
    rw [readTo]
    split
    · split
      · exact ih _ _ (noLeft_take h _ _)
      · exact noLeft_take h _ _
    · split
      · split <;> exact h
      · exact h
/-- What a text leaves that is well-formed. -/
theorem Fine.left {T : ByteArray} (h : Fine T) : openF (rdM T).2 = false ∧ (rdM T).2.proof = [] ∧ NoLeft (rdM T).2 := by
  have nl : NoLeft (rdM T).2 := noLeft_read ⟨#[109]⟩ T _ 0 emptyDb noLeft_empty
  have ho : openF (rdM T).2 = false := (read_pre (pre_of T ⟨#[]⟩) ⟨#[109]⟩ 0 emptyDb (Nat.zero_le _) h.ok).1
  refine ⟨ho, nl ?_, nl⟩
  unfold openF at ho
  simp only [Bool.or_eq_false_iff] at ho
  simpa using ho.1
theorem map_closed (π₁ π₂ : Pl → Pl) (d : Db) (h : d.proof = []) : mapDb (fun i => if i < d.sts.length then π₁ else π₂) d = { d with sts := d.sts.map (mapSt π₁) } := by
  rw [mapDb_closed _ d h, mapSts_two]

/-- The chunk behind the text, in U at T's end, in V elsewhere. -/
structure Tail (T c V : ByteArray) (a' : Nat) : Prop where
  size : V.size = a' + c.size
  same : ∀ i, i < c.size → byteAt V (a' + i) = byteAt c i
theorem tail_shf (T c V : ByteArray) (a' : Nat) (h : Tail T c V a') : Shf (T ++ ⟨#[10]⟩ ++ c) V (T.size + 1) a' ∧ Shf c V 0 a' := by
  have sz : (T ++ ⟨#[10]⟩ ++ c).size = T.size + 1 + c.size := by rw [ByteArray.size_append, ByteArray.size_append, lf_size]
  refine ⟨⟨by omega, by rw [h.size]; omega, fun k hk hl => ?_⟩, ⟨by omega, by rw [h.size]; omega, fun k hk hl => ?_⟩⟩
  · obtain ⟨i, rfl⟩ : ∃ i, k = T.size + 1 + i := ⟨k - (T.size + 1), by omega⟩
    rw [pre_right T c i (by omega), show T.size + 1 + i - (T.size + 1) + a' = a' + i by omega, h.same i (by omega)]
  · rw [show k - 0 + a' = a' + k by omega, h.same k hl]
theorem tail_noInc (T c V : ByteArray) (a' : Nat) (h : Tail T c V a') (hc : holdsF c = false) : ∀ k, a' ≤ k → k ≤ V.size → isWordF (nextF V k).1 = true → ((nextF V k).1.text.toList == [36, 91]) = false := by
  intro k hk hl hw
  have s := (tail_shf T c V a' h).2
  have e := next_sh s (k - a') (Nat.zero_le _) (by have := h.size; omega)
  rw [show k - a' - 0 + a' = k by omega] at e
  rw [e] at hw ⊢
  exact noInc_of c hc (k - a') (by have := h.size; omega) hw
theorem line_U (T c : ByteArray) : lineAt (T ++ ⟨#[10]⟩ ++ c) (T.size + 1) = lineAt T T.size + 1 ∧ colAt (T ++ ⟨#[10]⟩ ++ c) (T.size + 1) = 1 := by
  have pr := pre_of T c
  rw [lineAt, colAt, pr.lf, (line_pre pr T.size (Nat.le_refl _)).1]
  exact ⟨by simp, by simp⟩
/-- What is read of the chunk in V, from a database that is T's with its places changed. -/
theorem tail_read (T c V : ByteArray) (a' : Nat) (hT : Fine T) (h : Tail T c V a') (hcol : colAt V a' = 1) (π₁ : Pl → Pl) :
    readF ⟨#[109]⟩ V a' { (rdM T).2 with sts := (rdM T).2.sts.map (mapSt π₁) } =
      (shQ (T.size + 1) a' (rdM (T ++ ⟨#[10]⟩ ++ c)).1, mapDb (fun i => if i < (rdM T).2.sts.length then π₁ else πL (lineAt V a' - (lineAt T T.size + 1))) (rdM (T ++ ⟨#[10]⟩ ++ c)).2) := by
  have sz : (T ++ ⟨#[10]⟩ ++ c).size = T.size + 1 + c.size := by rw [ByteArray.size_append, ByteArray.size_append, lf_size]
  have s := (tail_shf T c V a' h).1
  obtain ⟨-, hp, hl⟩ := hT.left
  have lu := line_U T c
  have rp := (read_pre (pre_of T c) ⟨#[109]⟩ 0 emptyDb (Nat.zero_le _) hT.ok).2
  have rs := read_sh s ⟨#[109]⟩ ⟨#[109]⟩ (fun i => if i < (rdM T).2.sts.length then π₁ else πL (lineAt V a' - (lineAt T T.size + 1))) (rdM T).2.sts.length (fun q hq hq2 i hi => by
    have ls := line_sh s (by rw [hcol, lu.2]) q hq hq2
    simp only [if_neg (show ¬ i < (rdM T).2.sts.length by omega)]
    unfold πL plAt
    rw [if_neg (show ¬ ((⟨#[109]⟩ : ByteArray).toList == []) = true by decide +kernel), ls.1, ls.2, lu.1]) (T.size + 1) (rdM T).2 (Nat.le_refl _) (by omega) (Nat.le_refl _) hl
  rw [show T.size + 1 - (T.size + 1) + a' = a' by omega, map_closed _ _ _ hp] at rs
  rw [rs]
  have e : rdM (T ++ ⟨#[10]⟩ ++ c) = readF ⟨#[109]⟩ (T ++ ⟨#[10]⟩ ++ c) (T.size + 1) (rdM T).2 := rp
  rw [← e]

end Go.Proofs.YtcipkfhpcbddiaaGreat

/- Parted: the two texts. No walk. -/
namespace Go.Proofs.YtcipkfhpcbddiaaGreat
open Go.RowKit

def litC : ByteArray := ⟨#[10, 36, 40, 32, 97, 32, 36, 91, 32, 99, 111, 109, 109, 101, 110, 116, 32, 36, 46, 32, 36, 41, 10]⟩
def comC : ByteArray := ⟨#[36, 40, 32, 97, 32, 36, 91, 32, 99, 111, 109, 109, 101, 110, 116, 32, 36, 46, 32, 36, 41]⟩
def litI : ByteArray := ⟨#[36, 91, 32, 105, 32, 36, 93, 32, 36, 91, 32, 109, 32, 36, 93, 32, 36, 91, 32, 105, 32, 36, 93, 10]⟩
def hdI : ByteArray := ⟨#[36, 91, 32, 105, 32, 36, 93, 32, 36, 91, 32, 109, 32, 36, 93, 32, 36, 91, 32, 105, 32, 36, 93]⟩
theorem litC_size : litC.size = 23 := by decide +kernel
theorem comC_size : comC.size = 21 := by decide +kernel
theorem litI_size : litI.size = 24 := by decide +kernel
theorem litI_is : litI = hdI ++ ⟨#[10]⟩ := by decide +kernel
theorem hdI_size : hdI.size = 23 := by decide +kernel
theorem litC_bytes : ∀ i, i < 22 → byteAt litC (i + 1) = byteAt (comC ++ ⟨#[10]⟩) i := by decide +kernel
theorem litC_lf : byteAt litC 0 = 10 := by decide +kernel
theorem comRun : isWordF (runF comC 0).1 = true ∧ ((runF comC 0).1.text.toList == [36, 40]) = true ∧ (runF comC 0).1.fin = false ∧ (runF comC 0).2 = 2 := by decide +kernel
theorem comCom : isWordF (commentF comC 2).1 = true ∧ (commentF comC 2).1.rule = 0 ∧ (commentF comC 2).2 = 21 := by decide +kernel
theorem comEnd : (nextF comC 21).1.fin = true ∧ (nextF comC 21).1.rule = 0 := by decide +kernel

/-- The comment is passed over. -/
theorem com_next (c : ByteArray) : nextF (comC ++ ⟨#[10]⟩ ++ c) 0 = nextF (comC ++ ⟨#[10]⟩ ++ c) 22 := by
  have pr := pre_of comC c
  have r := (run_pre pr 0 (Nat.zero_le _)).1 comRun.2.2.1
  have cm := comment_pre pr 2 (by rw [comC_size]; omega) (by rw [comCom.2.1]; simp)
  have ne := (next_pre pr 21 (by rw [comC_size]; omega) (by rw [comEnd.2]; simp)).2 comEnd.1
  rw [comC_size] at ne
  rw [next_on _ 0 (Nat.zero_le _) (by rw [r]; exact comRun.1) (by rw [r]; exact comRun.2.1) (by rw [r, comRun.2.2.2, cm]; exact comCom.1), r, comRun.2.2.2, cm, comCom.2.2]
  exact ne
theorem K_size (T c : ByteArray) : (T ++ litC ++ c).size = T.size + 23 + c.size := by rw [ByteArray.size_append, ByteArray.size_append, litC_size]
theorem K_mid (T c : ByteArray) (i : Nat) (h : i < 23) : byteAt (T ++ litC ++ c) (T.size + i) = byteAt litC i := by
  rw [byteAt_append_left _ _ _ (by rw [ByteArray.size_append, litC_size]; omega), byteAt_append_right T litC i (by rw [litC_size]; exact h)]
theorem K_right (T c : ByteArray) (i : Nat) (h : i < c.size) : byteAt (T ++ litC ++ c) (T.size + 23 + i) = byteAt c i := by
  have := byteAt_append_right (T ++ litC) c i h
  rw [ByteArray.size_append, litC_size] at this; exact this
theorem K_tail (T c : ByteArray) : Tail T c (T ++ litC ++ c) (T.size + 23) := ⟨K_size T c, fun i hi => K_right T c i hi⟩
theorem K_pre (T c : ByteArray) : Pre T (T ++ litC ++ c) := by
  refine ⟨by rw [K_size]; omega, fun i hi => ?_, ?_⟩
  · rw [byteAt_append_left _ _ _ (by rw [ByteArray.size_append]; omega), byteAt_append_left _ _ _ hi]
  · have := K_mid T c 0 (by omega)
    rw [Nat.add_zero, litC_lf] at this; exact this
theorem K_next (T c : ByteArray) : nextF (T ++ litC ++ c) (T.size + 1) = nextF (T ++ litC ++ c) (T.size + 23) := by
  have s1 : (comC ++ ⟨#[10]⟩).size = 22 := by rw [ByteArray.size_append, comC_size, lf_size]
  have s2 : (comC ++ ⟨#[10]⟩ ++ c).size = 22 + c.size := by rw [ByteArray.size_append, s1]
  have sh : Shf (comC ++ ⟨#[10]⟩ ++ c) (T ++ litC ++ c) 0 (T.size + 1) := by
    refine ⟨Nat.zero_le _, by rw [K_size, s2]; omega, fun k _ hk => ?_⟩
    rw [s2] at hk
    rcases Nat.lt_or_ge k 22 with h | h
    · rw [show k - 0 + (T.size + 1) = T.size + (k + 1) by omega, K_mid T c (k + 1) (by omega), litC_bytes k h, byteAt_append_left (comC ++ ⟨#[10]⟩) c k (by rw [s1]; exact h)]
    · obtain ⟨i, rfl⟩ : ∃ i, k = 22 + i := ⟨k - 22, by omega⟩
      rw [show 22 + i - 0 + (T.size + 1) = T.size + 23 + i by omega, K_right T c i (by omega)]
      have := byteAt_append_right (comC ++ ⟨#[10]⟩) c i (by omega)
      rw [s1] at this; exact this.symm
  have e0 := next_sh sh 0 (Nat.le_refl _) (Nat.zero_le _)
  have e1 := next_sh sh 22 (Nat.zero_le _) (by rw [s2]; omega)
  rw [show 0 - 0 + (T.size + 1) = T.size + 1 by omega] at e0
  rw [show 22 - 0 + (T.size + 1) = T.size + 23 by omega] at e1
  rw [e0, e1, com_next c]
theorem litC_line : ∀ i, i < 23 → (byteAt litC i == 10) = (i == 0 || i == 22) := by decide +kernel
theorem K_line (T c : ByteArray) : lineAt (T ++ litC ++ c) (T.size + 23) = lineAt T T.size + 2 ∧ colAt (T ++ litC ++ c) (T.size + 23) = 1 := by
  have pr := K_pre T c
  have h0 := (line_pre pr T.size (Nat.le_refl _)).1
  have step : ∀ i, i ≤ 22 → lineAt (T ++ litC ++ c) (T.size + i) = lineAt T T.size + (if i = 0 then 0 else 1) := by
    intro i
    induction i with
    | zero => intro _; rw [Nat.add_zero, h0]; simp
    | succ i ih =>
      intro hi
      rw [← Nat.add_assoc, lineAt, K_mid T c i (by omega), ih (by omega), litC_line i (by omega)]
      by_cases e : i = 0
      · subst e; simp
      · have e2 : (i == 0 || i == 22) = false := by simp; omega
        rw [e2]; simp [e]
  have h22 := step 22 (Nat.le_refl _)
  refine ⟨?_, ?_⟩
  · rw [show T.size + 23 = T.size + 22 + 1 by omega, lineAt, K_mid T c 22 (by omega), h22, litC_line 22 (by omega)]
    simp; omega
  · rw [show T.size + 23 = T.size + 22 + 1 by omega, colAt, K_mid T c 22 (by omega), litC_line 22 (by omega)]
    simp

/-- What the chunk's fault becomes. -/
def fltTail (U : ByteArray) (δ : Int) : Flt := if ((rdM U).1.1 == 0) = true then noFlt else ((rdM U).1.1, ⟨⟨#[109]⟩, lineAt U (rdM U).1.2 + δ, colAt U (rdM U).1.2⟩)
theorem fltTail_of (T c V : ByteArray) (a' : Nat) (hT : Fine T) (h : Tail T c V a') (hcol : colAt V a' = 1) :
    fltOf ⟨#[109]⟩ V (shQ (T.size + 1) a' (rdM (T ++ ⟨#[10]⟩ ++ c)).1) = fltTail (T ++ ⟨#[10]⟩ ++ c) (lineAt V a' - (lineAt T T.size + 1)) := by
  unfold fltOf fltTail shQ
  cases hr : ((rdM (T ++ ⟨#[10]⟩ ++ c)).1.1 == 0) with
  | true => simp only [if_true, hr]
  | false =>
    simp only [Bool.false_eq_true, if_false, hr]
    have hne : (rdM (T ++ ⟨#[10]⟩ ++ c)).1.1 ≠ 0 := by simpa using hr
    have rp := (read_pre (pre_of T c) ⟨#[109]⟩ 0 emptyDb (Nat.zero_le _) hT.ok).2
    have e : rdM (T ++ ⟨#[10]⟩ ++ c) = readF ⟨#[109]⟩ (T ++ ⟨#[10]⟩ ++ c) (T.size + 1) (rdM T).2 := rp
    have sz : (T ++ ⟨#[10]⟩ ++ c).size = T.size + 1 + c.size := by rw [ByteArray.size_append, ByteArray.size_append, lf_size]
    have hp := readF_pos ⟨#[109]⟩ (T ++ ⟨#[10]⟩ ++ c) (T.size + 1) (rdM T).2 (by omega) (by rw [← e]; exact hne)
    rw [← e] at hp
    have lu := line_U T c
    have ls := line_sh (tail_shf T c V a' h).1 (by rw [hcol, lu.2]) _ hp.1 hp.2
    unfold plAt
    rw [ls.1, ls.2, lu.1]

/-- Said of the text with a comment between. -/
theorem read_K (T c : ByteArray) (hT : Fine T) (hc : holdsF c = false) (fs : List (ByteArray × ByteArray)) (x : Nat) (hx : x < 4) (hn : fileNm fs x = ⟨#[109]⟩) (hd : fileDt fs x = T ++ litC ++ c) (hs : (T ++ litC ++ c).size ≤ 1024) :
    (readAll fs x).1 = fltTail (T ++ ⟨#[10]⟩ ++ c) 1 ∧ (readAll fs x).2.2.sts = mapSts (fun i => if i < (rdM T).2.sts.length then (fun p => p) else πL 1) (rdM (T ++ ⟨#[10]⟩ ++ c)).2.sts := by
  have kl := K_line T c
  have kt := K_tail T c
  have sz := K_size T c
  have hb : bg0.getD x true = false := by
    match x, hx with
    | 0, _ => rfl
    | 1, _ => rfl
    | 2, _ => rfl
    | 3, _ => rfl
  have e0 : readAll fs x = readGo fs 5000 x 0 (bg0.set x true) emptyDb := by unfold readAll fileR; rw [if_neg (by rw [hb]; simp)]
  obtain ⟨f', hf', e1⟩ := go_pre fs x T (by rw [hd]; exact K_pre T c) (noInc_of T hT.inc) _ 5000 0 (bg0.set x true) emptyDb (Nat.le_refl _) (Nat.zero_le _) (by rw [hn]; exact hT.ok) (by omega)
  have e2 := readGo_congr fs f' x (T.size + 1) (T.size + 23) (bg0.set x true) (readF (fileNm fs x) T 0 emptyDb).2 (by rw [hd]; exact K_next T c)
  have e3 := go_from fs x (T.size + 23) (by rw [hd]; exact tail_noInc T c _ _ kt hc) f' (T.size + 23) (bg0.set x true) (readF (fileNm fs x) T 0 emptyDb).2 (Nat.le_refl _) (by rw [hd]; omega) (by rw [hd]; omega)
  have ed : (rdM T).2 = { (rdM T).2 with sts := (rdM T).2.sts.map (mapSt (fun p => p)) } := by
    have : (rdM T).2.sts.map (mapSt (fun p => p)) = (rdM T).2.sts := by
      rw [show mapSt (fun p => p) = id from funext mapSt_id, List.map_id]
    rw [this]
  have er : (readF (fileNm fs x) T 0 emptyDb).2 = (rdM T).2 := by rw [hn]; rfl
  have tr := tail_read T c (T ++ litC ++ c) (T.size + 23) hT kt kl.2 (fun p => p)
  rw [← ed] at tr
  have eδ : lineAt (T ++ litC ++ c) (T.size + 23) - (lineAt T T.size + 1) = 1 := by rw [kl.1]; omega
  have ft := fltTail_of T c (T ++ litC ++ c) (T.size + 23) hT kt kl.2
  rw [eδ] at tr ft
  rw [e0, e1, e2, e3, er, hn, hd, tr]
  exact ⟨ft, rfl⟩

end Go.Proofs.YtcipkfhpcbddiaaGreat

/- Parted: the text in a file of its own. No walk. -/
namespace Go.Proofs.YtcipkfhpcbddiaaGreat
open Go.RowKit

theorem I_size (c : ByteArray) : (litI ++ c).size = 24 + c.size := by rw [ByteArray.size_append, litI_size]
theorem I_tail (T c : ByteArray) : Tail T c (litI ++ c) 24 := by
  refine ⟨I_size c, fun i hi => ?_⟩
  have := byteAt_append_right litI c i hi
  rw [litI_size] at this; exact this
theorem I_pre (c : ByteArray) : Pre hdI (litI ++ c) := by rw [litI_is]; exact pre_of hdI c
theorem litI_line : ∀ i, i < 24 → (byteAt litI i == 10) = (i == 23) := by decide +kernel
theorem I_line (c : ByteArray) : lineAt (litI ++ c) 24 = 2 ∧ colAt (litI ++ c) 24 = 1 := by
  have b : ∀ i, i < 24 → byteAt (litI ++ c) i = byteAt litI i := fun i hi => byteAt_append_left _ _ _ (by rw [litI_size]; exact hi)
  have step : ∀ i, i ≤ 23 → lineAt (litI ++ c) i = 1 := by
    intro i
    induction i with
    | zero => intro _; rfl
    | succ i ih =>
      intro hi
      have e2 : (i == 23) = false := by simp; omega
      rw [lineAt, b i (by omega), ih (by omega), litI_line i (by omega), e2]; simp
  refine ⟨?_, ?_⟩
  · rw [show (24 : Nat) = 23 + 1 from rfl, lineAt, b 23 (by omega), step 23 (Nat.le_refl _), litI_line 23 (by omega)]; simp
  · rw [show (24 : Nat) = 23 + 1 from rfl, colAt, b 23 (by omega), litI_line 23 (by omega)]; simp

/-- Three words of the head: an inclusion. -/
structure IncW (s : ByteArray) (k z1 z2 z3 : Nat) (nm : List UInt8) : Prop where
  w1 : isWordF (nextF s k).1 = true
  t1 : ((nextF s k).1.text.toList == [36, 91]) = true
  e1 : (nextF s k).2 = z1
  w2 : isWordF (nextF s z1).1 = true
  t2 : (nextF s z1).1.text.toList = nm
  e2 : (nextF s z1).2 = z2
  w3 : isWordF (nextF s z2).1 = true
  t3 : ((nextF s z2).1.text.toList == [36, 93]) = true
  e3 : (nextF s z2).2 = z3
theorem incW_of {s : ByteArray} {k z1 z2 z3 : Nat} {nm : List UInt8} (h : isWordF (nextF s k).1 = true ∧ ((nextF s k).1.text.toList == [36, 91]) = true ∧ (nextF s k).2 = z1 ∧ isWordF (nextF s z1).1 = true ∧ (nextF s z1).1.text.toList = nm ∧ (nextF s z1).2 = z2 ∧ isWordF (nextF s z2).1 = true ∧ ((nextF s z2).1.text.toList == [36, 93]) = true ∧ (nextF s z2).2 = z3) : IncW s k z1 z2 z3 nm :=
  ⟨h.1, h.2.1, h.2.2.1, h.2.2.2.1, h.2.2.2.2.1, h.2.2.2.2.2.1, h.2.2.2.2.2.2.1, h.2.2.2.2.2.2.2.1, h.2.2.2.2.2.2.2.2⟩
theorem incW1 : IncW hdI 0 2 4 7 (⟨#[105]⟩ : ByteArray).toList := incW_of (by decide +kernel)
theorem incW2 : IncW hdI 7 10 12 15 (⟨#[109]⟩ : ByteArray).toList := incW_of (by decide +kernel)
theorem incW3 : IncW hdI 15 18 20 23 (⟨#[105]⟩ : ByteArray).toList := incW_of (by decide +kernel)
theorem incEnd : (nextF hdI 23).1.fin = true ∧ (nextF hdI 23).1.rule = 0 := by decide +kernel
theorem incW_pre {s s' : ByteArray} (h : Pre s s') {k z1 z2 z3 : Nat} {nm : List UInt8} (w : IncW s k z1 z2 z3 nm) (hk : k ≤ s.size) (h1 : z1 ≤ s.size) (h2 : z2 ≤ s.size) : IncW s' k z1 z2 z3 nm := by
  have n1 := (next_pre h k hk (by rw [isWordF_eq w.w1]; simp)).1 (by rw [isWordF_eq w.w1])
  have n2 := (next_pre h z1 h1 (by rw [isWordF_eq w.w2]; simp)).1 (by rw [isWordF_eq w.w2])
  have n3 := (next_pre h z2 h2 (by rw [isWordF_eq w.w3]; simp)).1 (by rw [isWordF_eq w.w3])
  exact ⟨by rw [n1]; exact w.w1, by rw [n1]; exact w.t1, by rw [n1]; exact w.e1, by rw [n2]; exact w.w2, by rw [n2]; exact w.t2, by rw [n2]; exact w.e2, by rw [n3]; exact w.w3, by rw [n3]; exact w.t3, by rw [n3]; exact w.e3⟩
theorem inc_step (fs : List (ByteArray × ByteArray)) (f x k z1 z2 z3 j : Nat) (nm : ByteArray) (bg : List Bool) (d : Db) (w : IncW (fileDt fs x) k z1 z2 z3 nm.toList) (ho : openF d = false) (hd : dollarF nm = false) (hj : findF fs nm = j) :
    stepR fs f x k bg d = (fileR fs f j bg d, z3) := by
  have hnm : (nextF (fileDt fs x) z1).1.text = nm := bytes_ext w.t2
  unfold stepR wordR
  rw [if_pos w.t1, w.e1]
  unfold incR incF
  rw [if_neg (by rw [ho]; simp), if_neg (by rw [w.w2]; simp), hnm, if_neg (by rw [hd]; simp), hj, if_neg (by omega), w.e2, if_neg (by rw [w.w3]; simp), if_neg (by rw [w.t3]; simp), w.e3]
  simp

/-- Said of the chunk, the text being included. -/
theorem read_I (T c : ByteArray) (hT : Fine T) (hc : holdsF c = false) (fs : List (ByteArray × ByteArray)) (x y : Nat) (hxy : (x = 0 ∧ y = 1) ∨ (x = 1 ∧ y = 0)) (hn : fileNm fs x = ⟨#[109]⟩) (hd : fileDt fs x = litI ++ c) (hn2 : fileNm fs y = ⟨#[105]⟩) (hd2 : fileDt fs y = T)
    (hfx : findF fs ⟨#[109]⟩ = x) (hfy : findF fs ⟨#[105]⟩ = y) (hs : (litI ++ c).size ≤ 1024) :
    (readAll fs x).1 = fltTail (T ++ ⟨#[10]⟩ ++ c) (1 - lineAt T T.size) ∧ (readAll fs x).2.2.sts = mapSts (fun i => if i < (rdM T).2.sts.length then πF else πL (1 - lineAt T T.size)) (rdM (T ++ ⟨#[10]⟩ ++ c)).2.sts := by
  have kl := I_line c
  have kt := I_tail T c
  have sz := I_size c
  have hts := hT.size
  have pr := I_pre c
  have hbx : bg0.getD x true = false ∧ (bg0.set x true).getD y true = false ∧ ((bg0.set x true).set y true).getD x true = true ∧ ((bg0.set x true).set y true).getD y true = true := by
    rcases hxy with ⟨rfl, rfl⟩ | ⟨rfl, rfl⟩ <;> exact ⟨rfl, rfl, rfl, rfl⟩
  obtain ⟨b1, b2, b3, b4⟩ := hbx
  obtain ⟨ho, hp, hl⟩ := hT.left
  -- the text under its other name
  have h00 : Shf T T 0 0 := ⟨Nat.zero_le _, by omega, fun k _ _ => by simp⟩
  have ri := read_sh h00 ⟨#[109]⟩ ⟨#[105]⟩ (fun _ => πF) 0 (fun q _ _ i _ => by unfold πF plAt; rw [if_neg (show ¬ ((⟨#[109]⟩ : ByteArray).toList == []) = true by decide +kernel)]; rfl) 0 emptyDb (Nat.le_refl _) (Nat.zero_le _) (Nat.zero_le _) noLeft_empty
  have ei : readF ⟨#[105]⟩ T 0 emptyDb = ((rdM T).1, { (rdM T).2 with sts := (rdM T).2.sts.map (mapSt πF) }) := by
    have e1 : mapDb (fun _ => πF) emptyDb = emptyDb := rfl
    have e2 : mapDb (fun _ => πF) (rdM T).2 = { (rdM T).2 with sts := (rdM T).2.sts.map (mapSt πF) } := by rw [mapDb_closed _ _ hp, mapSts_const]
    have e3 : shQ 0 0 (rdM T).1 = (rdM T).1 := by unfold shQ; split <;> simp
    rw [e1] at ri
    have ri' : readF ⟨#[105]⟩ T 0 emptyDb = (shQ 0 0 (rdM T).1, mapDb (fun _ => πF) (rdM T).2) := ri
    rw [ri', e2, e3]
  have e0 : readAll fs x = readGo fs 5000 x 0 (bg0.set x true) emptyDb := by unfold readAll fileR; rw [if_neg (by rw [b1]; simp)]
  have w1 : IncW (fileDt fs x) 0 2 4 7 (⟨#[105]⟩ : ByteArray).toList := by rw [hd]; exact incW_pre pr incW1 (by rw [hdI_size]; omega) (by rw [hdI_size]; omega) (by rw [hdI_size]; omega)
  have w2 : IncW (fileDt fs x) 7 10 12 15 (⟨#[109]⟩ : ByteArray).toList := by rw [hd]; exact incW_pre pr incW2 (by rw [hdI_size]; omega) (by rw [hdI_size]; omega) (by rw [hdI_size]; omega)
  have w3 : IncW (fileDt fs x) 15 18 20 23 (⟨#[105]⟩ : ByteArray).toList := by rw [hd]; exact incW_pre pr incW3 (by rw [hdI_size]; omega) (by rw [hdI_size]; omega) (by rw [hdI_size]; omega)
  have s1 := inc_step fs 4999 x 0 2 4 7 y ⟨#[105]⟩ (bg0.set x true) emptyDb w1 rfl (by decide +kernel) hfy
  have f1 : fileR fs 4999 y (bg0.set x true) emptyDb = (noFlt, (bg0.set x true).set y true, { (rdM T).2 with sts := (rdM T).2.sts.map (mapSt πF) }) := by
    unfold fileR
    rw [if_neg (by rw [b2]; simp), go_plain fs y (by rw [hd2]; exact noInc_of T hT.inc) 4999 0 _ _ (Nat.zero_le _) (by rw [hd2]; omega), hn2, hd2, ei]
    unfold fltOf
    simp only [hT.ok]
    rfl
  rw [f1] at s1
  have s2 := inc_step fs 4998 x 7 10 12 15 x ⟨#[109]⟩ ((bg0.set x true).set y true) { (rdM T).2 with sts := (rdM T).2.sts.map (mapSt πF) } w2 ho (by decide +kernel) hfx
  have f2 : fileR fs 4998 x ((bg0.set x true).set y true) { (rdM T).2 with sts := (rdM T).2.sts.map (mapSt πF) } = (noFlt, (bg0.set x true).set y true, { (rdM T).2 with sts := (rdM T).2.sts.map (mapSt πF) }) := by unfold fileR; rw [if_pos b3]
  rw [f2] at s2
  have s3 := inc_step fs 4997 x 15 18 20 23 y ⟨#[105]⟩ ((bg0.set x true).set y true) { (rdM T).2 with sts := (rdM T).2.sts.map (mapSt πF) } w3 ho (by decide +kernel) hfy
  have f3 : fileR fs 4997 y ((bg0.set x true).set y true) { (rdM T).2 with sts := (rdM T).2.sts.map (mapSt πF) } = (noFlt, (bg0.set x true).set y true, { (rdM T).2 with sts := (rdM T).2.sts.map (mapSt πF) }) := by unfold fileR; rw [if_pos b4]
  rw [f3] at s3
  have g1 := go_on fs 4999 x 0 (bg0.set x true) emptyDb w1.w1 (by rw [s1]; rfl)
  have g2 := go_on fs 4998 x 7 ((bg0.set x true).set y true) { (rdM T).2 with sts := (rdM T).2.sts.map (mapSt πF) } w2.w1 (by rw [s2]; rfl)
  have g3 := go_on fs 4997 x 15 ((bg0.set x true).set y true) { (rdM T).2 with sts := (rdM T).2.sts.map (mapSt πF) } w3.w1 (by rw [s3]; rfl)
  rw [s1] at g1
  rw [s2] at g2
  rw [s3] at g3
  have hn24 : nextF (fileDt fs x) 23 = nextF (fileDt fs x) 24 := by
    have := (next_pre pr 23 (by rw [hdI_size]; omega) (by rw [incEnd.2]; simp)).2 incEnd.1
    rw [hdI_size] at this
    rw [hd]; exact this
  have g4 := readGo_congr fs 4997 x 23 24 ((bg0.set x true).set y true) { (rdM T).2 with sts := (rdM T).2.sts.map (mapSt πF) } hn24
  have g5 := go_from fs x 24 (by rw [hd]; exact tail_noInc T c _ _ kt hc) 4997 24 ((bg0.set x true).set y true) { (rdM T).2 with sts := (rdM T).2.sts.map (mapSt πF) } (Nat.le_refl _) (by rw [hd]; omega) (by rw [hd]; omega)
  have tr := tail_read T c (litI ++ c) 24 hT kt kl.2 πF
  have eδ : lineAt (litI ++ c) 24 - (lineAt T T.size + 1) = 1 - lineAt T T.size := by rw [kl.1]; omega
  have ft := fltTail_of T c (litI ++ c) 24 hT kt kl.2
  rw [eδ] at tr ft
  have fin : readAll fs x = (fltOf ⟨#[109]⟩ (litI ++ c) (shQ (T.size + 1) 24 (rdM (T ++ ⟨#[10]⟩ ++ c)).1), (bg0.set x true).set y true, mapDb (fun i => if i < (rdM T).2.sts.length then πF else πL (1 - lineAt T T.size)) (rdM (T ++ ⟨#[10]⟩ ++ c)).2) := by
    rw [e0]
    refine g1.trans ?_
    refine g2.trans ?_
    refine g3.trans ?_
    rw [g4, g5, hn, hd, tr]
  rw [fin]
  exact ⟨ft, rfl⟩

end Go.Proofs.YtcipkfhpcbddiaaGreat

/- What holds of a record's places holds of the rows' places. No walk. -/
namespace Go.Proofs.YtcipkfhpcbddiaaGreat
open Go.RowKit

/-- A property of places that no column turns. -/
structure PlP (P : Pl → Prop) : Prop where
  none : P noPl
  col : ∀ p c, P p → P { p with col := c }
theorem PlP.flt {P : Pl → Prop} (h : PlP P) : P noFlt.2 := h.none
def PsOk (P : Pl → Prop) (l : List St) : Prop := ∀ s ∈ l, P s.fin ∧ ∀ x ∈ s.proof, P x.2

theorem norm_pp {P : Pl → Prop} (hP : PlP P) (l : List St) (a : Nat) (fin : Pl) (hf : P fin) (ws : List (ByteArray × Pl)) (hw : ∀ x ∈ ws, P x.2) : ∀ acc, (∀ s ∈ acc, P s.at_) → (∀ s ∈ (normF l a fin ws acc).1, P s.at_) ∧ P (normF l a fin ws acc).2.2 := by
  induction ws with
  | nil =>
    intro acc ha
    rw [normF]
    split
    · exact ⟨by simp, hf⟩
    · exact ⟨ha, hP.flt⟩
  | cons x r ih =>
    intro acc ha
    obtain ⟨t, p⟩ := x
    have hp := hw (t, p) (by simp)
    have hr := fun y hy => hw y (List.mem_cons_of_mem _ hy)
    have hacc : ∀ k n, ∀ s ∈ acc ++ [(⟨k, n, p⟩ : Stp)], P s.at_ := by
      intro k n s hs
      rcases List.mem_append.1 hs with hs | hs
      · exact ha s hs
      · rw [List.mem_singleton.1 hs]; exact hp
    rw [normF]
    split
    · exact ih hr _ (hacc _ _)
    · split
      · exact ⟨by simp, hp⟩
      · exact ih hr _ (hacc _ _)
theorem block_pp {P : Pl → Prop} (hP : PlP P) (l : List St) (a : Nat) (fin : Pl) (hf : P fin) (ws : List (ByteArray × Pl)) (hw : ∀ x ∈ ws, P x.2) : ∀ i ns, P (blockL l a fin i ws ns).1.2.2 := by
  induction ws with
  | nil => intro i ns; exact hf
  | cons x r ih =>
    intro i ns
    obtain ⟨t, p⟩ := x
    have hp := hw (t, p) (by simp)
    rw [blockL]
    split
    · exact hP.flt
    · split
      · exact hp
      · split
        · exact hp
        · exact ih (fun y hy => hw y (List.mem_cons_of_mem _ hy)) _ _
def CmpPp (P : Pl → Prop) (c : Cmp) : Prop := ∀ s ∈ c.steps, P s.at_
theorem add_pp {P : Pl → Prop} (_hP : PlP P) {c : Cmp} (h : CmpPp P c) (s : Stp) (hs : P s.at_) : ∀ x ∈ c.steps ++ [s], P x.at_ := by
  intro x hx
  rcases List.mem_append.1 hx with hx | hx
  · exact h x hx
  · rw [List.mem_singleton.1 hx]; exact hs
theorem let_pp {P : Pl → Prop} (hP : PlP P) {c : Cmp} (h : CmpPp P c) (n : Nat) (p : Pl) (hp : P p) : CmpPp P (takeLetF c n p).2 := by
  unfold takeLetF
  split
  · unfold endNumF
    split
    · exact add_pp hP h _ hp
    · split
      · exact add_pp hP h _ hp
      · exact h
  · split
    · unfold takeDigF; split <;> exact h
    · split
      · exact h
      · split
        · exact add_pp hP h _ hp
        · exact h
theorem word_pp {P : Pl → Prop} (hP : PlP P) (t : ByteArray) (p : Pl) (hp : P p) (f : Nat) : ∀ j c, CmpPp P c → CmpPp P (wordLet t p f j c).2 ∧ P (wordLet t p f j c).1.2 := by
  induction f with
  | zero => intro j c h; exact ⟨h, hP.flt⟩
  | succ f ih =>
    intro j c h
    rw [wordLet]
    split
    · split
      · exact ih _ _ (let_pp hP h _ _ (hP.col _ _ hp))
      · exact ⟨let_pp hP h _ _ (hP.col _ _ hp), hP.col _ _ hp⟩
    · exact ⟨h, hP.flt⟩
theorem words_pp {P : Pl → Prop} (hP : PlP P) (ws : List (ByteArray × Pl)) (hw : ∀ x ∈ ws, P x.2) : ∀ c, CmpPp P c → CmpPp P (wordsLF ws c).2 ∧ P (wordsLF ws c).1.2 := by
  induction ws with
  | nil => intro c h; exact ⟨h, hP.flt⟩
  | cons x r ih =>
    intro c h
    obtain ⟨t, p⟩ := x
    have h1 := word_pp hP t p (hw (t, p) (by simp)) (t.size + 1) 0 c h
    rw [wordsLF]
    split
    · exact ih (fun y hy => hw y (List.mem_cons_of_mem _ hy)) _ h1.1
    · exact h1
theorem prf_pp {P : Pl → Prop} (hP : PlP P) (l : List St) (a : Nat) (s : St) (hf : P s.fin) (hw : ∀ x ∈ s.proof, P x.2) : (∀ x ∈ (prfF l a s).1, P x.at_) ∧ P (prfF l a s).2.2 := by
  unfold prfF
  split
  · unfold compF
    have hR : CmpPp P (compR l a s).2 ∧ P (compR l a s).1.2 := by
      unfold compR onw
      split
      · exact words_pp hP _ (fun y hy => hw y (List.mem_of_mem_drop hy)) _ (by intro x hx; cases hx)
      · exact ⟨(by intro x hx; cases hx), block_pp hP l a s.fin hf _ (fun y hy => hw y (List.mem_of_mem_drop hy)) _ _⟩
    unfold compE
    split
    · split
      · split
        · exact ⟨by simp, hf⟩
        · exact ⟨hR.1, hP.flt⟩
      · exact ⟨by simp, hf⟩
    · exact ⟨by simp, hR.2⟩
  · exact norm_pp hP l a s.fin hf s.proof hw [] (by simp)
theorem play_pp {P : Pl → Prop} (hP : PlP P) (l : List St) (vs : List ByteArray) (ms : List Bool) (fin : Pl) (hf : P fin) (goal : List ByteArray) (steps : List Stp) (h : ∀ x ∈ steps, P x.at_) : ∀ S, P (playAll l vs ms fin goal steps S).2 := by
  induction steps with
  | nil =>
    intro S
    rw [playAll]
    unfold leftF
    split
    · exact hf
    · split
      · exact hP.flt
      · exact hf
    · exact hf
  | cons s r ih =>
    intro S
    rw [playAll]
    split
    · exact ih (fun y hy => h y (List.mem_cons_of_mem _ hy)) _
    · exact h s (by simp)
theorem judge_pp {P : Pl → Prop} (hP : PlP P) (l : List St) (n : Nat) (s : St) (L : List Rw) (hf : P s.fin) (hw : ∀ x ∈ s.proof, P x.2) : P (judgeF l n s L).at_ := by
  have hp := prf_pp hP l n s hf hw
  unfold judgeF
  have hfl : P (if (unkF (prfF l n s).1).isNone = true ∧ ((prfF l n s).2.1 == 0) = true then playAllF l n s (prfF l n s).1 else (prfF l n s).2).2 := by
    split
    · exact play_pp hP _ _ _ _ hf _ _ hp.1 _
    · exact hp.2
  generalize (if (unkF (prfF l n s).1).isNone = true ∧ ((prfF l n s).2.1 == 0) = true then playAllF l n s (prfF l n s).1 else (prfF l n s).2) = f at *
  unfold judgeR
  split
  · split
    · next u hu =>
      show P (((prfF l n s).1[u]?).map Stp.at_ |>.getD noPl)
      cases e : (prfF l n s).1[u]? with
      | none => exact hP.none
      | some x => exact hp.1 x (List.mem_of_getElem? e)
    · split <;> exact hP.none
  · exact hfl
theorem up_pp {P : Pl → Prop} (hP : PlP P) (l : List St) (h : PsOk P l) (k : Nat) : ∀ r ∈ rowsUp l k, P r.at_ := by
  induction k with
  | zero => intro r hr; cases hr
  | succ k ih =>
    intro r hr
    rw [rowsUp] at hr
    rcases List.mem_append.1 hr with hr | hr
    · exact ih r hr
    · rw [List.mem_singleton.1 hr]
      unfold oneRow
      split
      · next s hs =>
        have hm := h s (List.mem_of_getElem? hs)
        split
        · exact hP.none
        · split
          · exact judge_pp hP l k s _ hm.1 hm.2
          · exact hP.none
      · exact hP.none

theorem rows_pp {P : Pl → Prop} (hP : PlP P) (l : List St) (h : PsOk P l) : ∀ r ∈ rowsF l, P r.at_ := fun r hr => up_pp hP l h _ r (List.mem_filter.1 hr).1

/-- Places of one file. -/
structure FileIs (n : ByteArray) (d : Db) : Prop where
  now : ∀ x ∈ d.proof, x.2.file = n
  sts : ∀ s ∈ d.sts, s.fin.file = n ∧ ∀ x ∈ s.proof, x.2.file = n
theorem FileIs.take {n : ByteArray} {d : Db} (h : FileIs n d) (x : ByteArray) (p : Pl) (hp : p.file = n) : FileIs n (takeF d x p).2 := by
  refine ⟨?_, ?_⟩
  · rcases take_proof d x p with e | e | e
    · rw [e]; exact h.now
    · rw [e]; simp
    · rw [e]
      intro y hy
      rcases List.mem_append.1 hy with hy | hy
      · exact h.now y hy
      · rw [List.mem_singleton.1 hy]; exact hp
  · rcases take_sts d x p with e | ⟨y, _, e⟩ | ⟨e, _⟩
    · rw [e]; exact h.sts
    · rw [e]
      intro s hs
      obtain ⟨s', hs', e1, e2, e3⟩ := mem_endSts hs
      rw [e2, e3]; exact h.sts s' hs'
    · rw [e]
      intro s hs
      rcases List.mem_append.1 hs with hs | hs
      · exact h.sts s hs
      · rw [List.mem_singleton.1 hs]; exact ⟨hp, h.now⟩
theorem file_read (n s : ByteArray) (f : Nat) : ∀ k d, FileIs n d → FileIs n (readTo n s f k d).2 := by
  induction f with
  | zero => intro k d h; exact h
  | succ f ih =>
    intro k d h
    rw [readTo]
    split
    · split
      · exact ih _ _ (h.take _ _ rfl)
      · exact h.take _ _ rfl
    · split
      · split <;> exact h
      · exact h
theorem rdM_file (T : ByteArray) : FileIs ⟨#[109]⟩ (rdM T).2 := file_read _ T _ 0 emptyDb ⟨by simp [emptyDb], by simp [emptyDb]⟩
/-- A row's place is none, or one of the file m. -/
theorem rowsM_file (T : ByteArray) : ∀ r ∈ rowsM T, r.at_.file = ⟨#[]⟩ ∨ r.at_.file = ⟨#[109]⟩ :=
  rows_pp (P := fun p => p.file = ⟨#[]⟩ ∨ p.file = ⟨#[109]⟩) ⟨Or.inl rfl, fun _ _ h => h⟩ (rdM T).2.sts (fun s hs => ⟨Or.inr ((rdM_file T).sts s hs).1, fun x hx => Or.inr (((rdM_file T).sts s hs).2 x hx)⟩)

end Go.Proofs.YtcipkfhpcbddiaaGreat

/- Package metaproofkeep: see, whatever Verify says. -/
namespace Go.Proofs.YtcipkfhpcbddiaaGreat
open Go.RowKit
attribute [local go_sem] build_nofault

/-- What see leaves: the rule, the place, the record; the table. -/
def CoreSays (b x : Nat) (T : ByteArray) (o : Option Nat) (fs' : List (ByteArray × ByteArray)) (r ln cl : Int) (l : List St) (w : World) (e : Ending) (w' : World) : Prop :=
  ∃ o', e = .returned (if (r == 0) = true then seenV (rowsSl o' (rowsF l).length) 0 ⟨#[]⟩ 0 0 0 else seenV (.slice none 0 0) r ⟨#[109]⟩ ln cl 6) ∧ ((r == 0) = true → RowsAt w' o' (rowsF l)) ∧ (∀ g, o' = some g → w.heap.size ≤ g) ∧ WorldAt w' b x T o ∧ SomeAt w' x fs' ∧ Kept [x] w w'
theorem core_bad {b x : Nat} {T : ByteArray} {o : Option Nat} {fs' : List (ByteArray × ByteArray)} {r ln cl : Int} {l : List St} {w w' : World} (hr : (r == 0) = false) (hW : WorldAt w' b x T o) (hF : SomeAt w' x fs') (hK : Kept [x] w w') :
    CoreSays b x T o fs' r ln cl l w (.returned (seenV (.slice none 0 0) r ⟨#[109]⟩ ln cl 6)) w' := by
  refine ⟨none, ?_, fun h => ?_, fun g h => (by cases h), hW, hF, hK⟩
  · rw [if_neg (by rw [hr]; simp)]
  · rw [hr] at h; cases h
theorem core_good {b x : Nat} {T : ByteArray} {o ob : Option Nat} {fs' : List (ByteArray × ByteArray)} {r ln cl : Int} {l : List St} {w w' : World} {rv : Value} (hr : (r == 0) = true) (hv : rowsSl ob (rowsF l).length = rv) (hR : RowsAt w' ob (rowsF l)) (hg : ∀ g, ob = some g → w.heap.size ≤ g) (hW : WorldAt w' b x T o) (hF : SomeAt w' x fs') (hK : Kept [x] w w') :
    CoreSays b x T o fs' r ln cl l w (.returned (seenV rv 0 ⟨#[]⟩ 0 0 0)) w' := by
  refine ⟨ob, ?_, fun _ => hR, hg, hW, hF, hK⟩
  rw [if_pos hr, hv]

set_option maxHeartbeats 3000000 in
set_option maxRecDepth 100000 in
theorem see_core (b x : Nat) (T t : ByteArray) (o : Option Nat) (fs fs' : List (ByteArray × ByteArray)) (r ln cl : Int) (l : List St) (w : World) (hW : WorldAt w b x T o) (hV : SomeAt w x fs) (hx : x ≠ b) (ht : ¬ 1024 < t.size) (hp : putF fs ⟨#[109]⟩ t = (0, fs')) (hlen : l.length ≤ 10000)
    (VF : ∀ w', SomeAt w' x fs' → Calls Tryz.prog 15 #[.pointer (some ⟨x, 0, none⟩), .string ⟨#[109]⟩] w' fun e w'' =>
      (if (r == 0) = true then e = .returned (.tuple #[.agg #[.int .i64 0, .string ⟨#[]⟩, .int .i64 0, .int .i64 0], .int .i64 0]) ∧ ∃ H g, RptAt w'' x fs' l H g ∧ w'.heap.size ≤ g ∧ ∀ k, InH H k → w'.heap.size ≤ k
       else e = .returned (.tuple #[.agg #[.int .i64 r, .string ⟨#[109]⟩, .int .i64 ln, .int .i64 cl], .int .i64 6]) ∧ BareAt w'' x fs') ∧ Kept [x] w' w'') :
    Calls Tryz.prog 18 #[.pointer (some ⟨b, 0, none⟩), .string t] w fun e w' => CoreSays b x T o fs' r ln cl l w e w' := by
  have hbw := hW.lt
  have hxw := hV.lt
  obtain ⟨c0, c1, -⟩ := hW.cells
  obtain ⟨W, hWW⟩ : ∃ W, W = (w.alloc (.cells #[.slice none 0 0, .int .i64 0, .string ⟨#[]⟩, .int .i64 0, .int .i64 0, .int .i64 0] 52)).alloc (.cells #[.slice none 0 0, .int .i64 0, .string ⟨#[]⟩, .int .i64 0, .int .i64 0, .int .i64 0] 52) := ⟨_, rfl⟩
  have hKW0 : Kept [] w W := by rw [hWW]; exact ((Kept.refl _ _).alloc _).alloc _
  have s0 : W.heap[w.heap.size]? = some (.cells #[.slice none 0 0, .int .i64 0, .string ⟨#[]⟩, .int .i64 0, .int .i64 0, .int .i64 0] 52 (0, 0)) := by
    rw [hWW]; exact ((Kept.refl [] _).alloc _).get (heap_alloc_new _ _) (by simp)
  have s1 : W.heap[w.heap.size + 1]? = some (.cells #[.slice none 0 0, .int .i64 0, .string ⟨#[]⟩, .int .i64 0, .int .i64 0, .int .i64 0] 52 (0, 0)) := by
    rw [hWW]
    have e : (w.alloc (.cells #[.slice none 0 0, .int .i64 0, .string ⟨#[]⟩, .int .i64 0, .int .i64 0, .int .i64 0] 52)).heap.size = w.heap.size + 1 := by simp
    rw [← e]; exact heap_alloc_new _ _
  have HW := (show Hid _ from hWW.symm)
  have PF := vput_any x ⟨#[109]⟩ t fs W (hV.kept hKW0 (by simp)) (by simp [ByteArray.size]) (by omega)
  rw [hp] at PF
  have HPF := (show Hid _ from PF)
  have HVF := (show Hid _ from VF)
  clear PF hWW hp VF
  have hne1 : w.heap.size ≠ x := by omega
  have hne2 : w.heap.size + 1 ≠ x := by omega
  have hxx : x ∉ [w.heap.size, w.heap.size + 1] := by simp; omega
  have hbb : b ∉ [w.heap.size, w.heap.size + 1] := by simp; omega
  have hzz := hW.rows.lt
  have HGG : Hid (∀ g, o = some g → g ∉ [w.heap.size, w.heap.size + 1]) := fun g hg => by have := hzz g hg; simp; omega
  clear hzz
  have hsn := fun (wx : World) => Lib.run_eql_slice_nil (P := Tryz.prog) wx 44 59 none 0 0 0 0 Tryz.underlying44
  have HWk : Hid (WorldAt W b x T o) := hW.still hKW0
  clear hW
  go_enter Tryz.func18, Tryz.ntmps18
  go_wp2_with fail
  rw [HW.out]
  refine Calls.mono HPF.out ?_
  rintro e w2 ⟨rfl, -, hB2, hk2⟩
  have hB2 := hB2 trivial
  have s02 := hk2.get s0 (by simp; omega)
  have s12 := hk2.get s1 (by simp; omega)
  have HW2 : Hid (WorldAt w2 b x T o) := HWk.out.keptX hk2 hx
  have hkx2 : Kept [x] w w2 := (hKW0.mono (by simp)).trans hk2
  obtain ⟨y0, y1, y2, y3, y4, y5⟩ := seen_cells s02
  obtain ⟨z0, z1, z2, z3, z4, z5⟩ := seen_cells s12
  have f0 := free_of s02
  have f1 := free_of s12
  clear c0 c1
  obtain ⟨c0, c1, -⟩ := HW2.out.cells
  have hbw2 := HW2.out.lt
  have hs2 := hk2.size
  have hWs := lt_of_get s1
  have B2' : Hid (∀ v, BareAt (w2.setCell ⟨w.heap.size + 1, 5, none⟩ v) x fs') := fun v => hB2.kept (S := [w.heap.size, w.heap.size + 1]) ((Kept.refl _ _).setCell (Or.inl (by simp)) _) hxx
  go_wp2_with (go_at_call 30; refine (vrows_bare x fs' _ (by exact B2'.out _)).mono ?_; rintro e w9 ⟨rfl, rfl⟩)
  refine Calls.mono (HVF.out _ (by exact (B2'.out _).anyR)) ?_
  rintro e w3 ⟨hcase, hk3⟩
  have s03 := hk3.get ((Below.heap_setCell w2 ⟨w.heap.size + 1, 5, none⟩ (.int .i64 0) w.heap.size (by simp)).trans s02) (by simp; omega)
  have s13 : w3.heap[w.heap.size + 1]? = some (.cells #[.slice none 0 0, .int .i64 0, .string ⟨#[]⟩, .int .i64 0, .int .i64 0, .int .i64 0] 52 (0, 0)) := hk3.get ((block_setCell s12 5 (.int .i64 0)).trans (by simp)) (by simp; omega)
  have HW3 : Hid (WorldAt w3 b x T o) := (HW2.out.kept (S := [w.heap.size, w.heap.size + 1]) ((Kept.refl _ _).setCell (Or.inl (by simp)) _) hbb HGG.out).keptX hk3 hx
  have hkx : Kept [x] w w3 := (hkx2.setCell (Or.inr (by simp)) _).trans hk3
  have hz3 := lt_of_get s13
  have hz3' := lt_of_get s03
  have hb3 := HW3.out.lt
  clear y0 y1 y2 y3 y4 y5 z0 z1 z2 z3 z4 z5 f0 f1 c0 c1 s02 s12 s0 s1 hkx2 hk2 hk3 B2' hB2
  obtain ⟨y0, y1, y2, y3, y4, y5⟩ := seen_cells s03
  obtain ⟨z0, z1, z2, z3, z4, z5⟩ := seen_cells s13
  have f0 := free_of s03
  have f1 := free_of s13
  obtain ⟨c0, c1, -⟩ := HW3.out.cells
  cases hr : (r == 0)
  · simp only [hr, Bool.false_eq_true, if_false] at hcase
    obtain ⟨rfl, hB3⟩ := hcase
    have hr' : (r != 0) = true := by simp [bne, hr]
    have HB : Hid (∀ a0 a1 a2 a3 a4 ob, BareAt ((((((w3.setCell ⟨w.heap.size + 1, 1, none⟩ a0).setCell ⟨w.heap.size + 1, 2, none⟩ a1).setCell ⟨w.heap.size + 1, 3, none⟩ a2).setCell ⟨w.heap.size + 1, 4, none⟩ a3).setCell ⟨w.heap.size + 1, 5, none⟩ a4).alloc ob) x fs') := fun a0 a1 a2 a3 a4 ob => hB3.kept (five_kept (Kept.refl [w.heap.size, w.heap.size + 1] w3) (Or.inl (by simp)) _ _ _ _ _ _) hxx
    go_wp2_with (go_at_call 30; refine (vrows_bare x fs' _ (by exact HB.out _ _ _ _ _ _)).mono ?_; rintro e w9 ⟨rfl, rfl⟩)
    go_region
    all_goals go_wp2
    all_goals
      refine bodyPost_ret (v := seenV (.slice none 0 0) r ⟨#[109]⟩ ln cl 6) (by simp [results, Tryz.results18, go_sem, seenV, hz3', y0, y1, y2, y3, y4, y5]) rfl ?_
      refine core_bad hr ?_ ?_ ?_
      · exact HW3.out.kept (S := [w.heap.size, w.heap.size + 1]) (twelve_kept (p := w.heap.size) (q := w.heap.size + 1) (Kept.refl _ _) (Or.inl (by simp)) (Or.inl (by simp)) _ _ _ _ _ _ _ _ _ _ _ _ _) hbb HGG.out
      · exact hB3.anyR.kept (S := [w.heap.size, w.heap.size + 1]) (twelve_kept (p := w.heap.size) (q := w.heap.size + 1) (Kept.refl _ _) (Or.inl (by simp)) (Or.inl (by simp)) _ _ _ _ _ _ _ _ _ _ _ _ _) hxx
      · exact twelve_kept (p := w.heap.size) (q := w.heap.size + 1) hkx (Or.inr (Nat.le_refl _)) (Or.inr (by omega)) _ _ _ _ _ _ _ _ _ _ _ _ _
  · simp only [hr, if_true] at hcase
    obtain ⟨rfl, H, g, hR3, hg3, hH3⟩ := hcase
    simp only [World.size_setCell] at hg3 hH3
    have hgn : g ∉ [w.heap.size, w.heap.size + 1] := by simp; omega
    have HHn : Hid (∀ k, InH H k → k ∉ [w.heap.size, w.heap.size + 1]) := fun k hk => by have := hH3 k hk; simp; omega
    have heq := fun (wx : World) => eqFault wx
    go_wp2_with fail
    refine (vrows_any x fs' l H g _ (by exact hR3.kept (five_kept (Kept.refl [w.heap.size, w.heap.size + 1] w3) (Or.inl (by simp)) _ _ _ _ _ _) hxx hgn HHn.out) hlen).mono ?_
    rintro e w9 ⟨ob, rfl, hO9, hf9, hk9⟩
    obtain ⟨ao, n9, cp9, hrs⟩ := rowsSl_is ob (rowsF l).length
    rw [hrs]
    have s19 := hk9.get (five_block s13 _ _ _ _ _ _) (by simp)
    have s09 := hk9.get ((five_kept (Kept.refl [w.heap.size + 1] w3) (Or.inl (by simp)) _ _ _ _ _ _).get s03 (by simp)) (by simp)
    have K9 : Kept [x] w w9 := (five_kept hkx (Or.inr (by omega)) _ _ _ _ _ _).trans (hk9.mono (by simp))
    have HW9 : Hid (WorldAt w9 b x T o) := (HW3.out.kept (five_kept (Kept.refl [w.heap.size, w.heap.size + 1] w3) (Or.inl (by simp)) _ _ _ _ _ _) hbb HGG.out).still hk9
    have HV9 : Hid (SomeAt w9 x fs') := (hR3.anyR.kept (five_kept (Kept.refl [w.heap.size, w.heap.size + 1] w3) (Or.inl (by simp)) _ _ _ _ _ _) hxx).kept hk9 (by simp)
    have HO9 : Hid (RowsAt w9 ob (rowsF l)) := hO9
    have HF9 : Hid (∀ g, ob = some g → w.heap.size + 2 ≤ g) := fun g hg => by have := hf9 g hg; simp at this; omega
    have HRS := (show Hid _ from hrs)
    clear y0 y1 y2 y3 y4 y5 z0 z1 z2 z3 z4 z5 f0 f1 c0 c1 s03 s13 hkx hk9 hO9 hf9 hrs hR3
    obtain ⟨y0, y1, y2, y3, y4, y5⟩ := seen_cells s09
    obtain ⟨z0, z1, z2, z3, z4, z5⟩ := seen_cells s19
    have f0 := free_of s09
    have f1 := free_of s19
    have hz9 := lt_of_get s19
    have hz9' := lt_of_get s09
    go_wp2_with fail
    go_region
    all_goals go_wp2
    all_goals
      refine bodyPost_ret (v := seenV (.slice ao n9 cp9) 0 ⟨#[]⟩ 0 0 0) (by simp [results, Tryz.results18, go_sem, seenV, y0, y1, y2, y3, y4, y5]) rfl ?_
      refine core_good hr (ob := ob) HRS.out ?_ (fun g hg => by have := HF9.out g hg; omega) ?_ ?_ ?_
      · exact RowsAt.kept HO9.out (S := [w.heap.size, w.heap.size + 1]) (seven_kept (p := w.heap.size) (q := w.heap.size + 1) (Kept.refl _ _) (Or.inl (by simp)) (Or.inl (by simp)) _ _ _ _ _ _ _) (fun g hg => by have := HF9.out g hg; simp; omega)
      · exact HW9.out.kept (S := [w.heap.size, w.heap.size + 1]) (seven_kept (p := w.heap.size) (q := w.heap.size + 1) (Kept.refl _ _) (Or.inl (by simp)) (Or.inl (by simp)) _ _ _ _ _ _ _) hbb HGG.out
      · exact HV9.out.kept (S := [w.heap.size, w.heap.size + 1]) (seven_kept (p := w.heap.size) (q := w.heap.size + 1) (Kept.refl _ _) (Or.inl (by simp)) (Or.inl (by simp)) _ _ _ _ _ _ _) hxx
      · exact seven_kept (p := w.heap.size) (q := w.heap.size + 1) K9 (Or.inr (Nat.le_refl _)) (Or.inr (by omega)) _ _ _ _ _ _ _

end Go.Proofs.YtcipkfhpcbddiaaGreat

/- Package metaproofkeep: rows whose lines are moved; sameRow, sameRows. -/
namespace Go.Proofs.YtcipkfhpcbddiaaGreat
open Go.RowKit
attribute [local go_sem] rowEql

set_option maxHeartbeats 800000 in
theorem sameRow_by (s f : ByteArray) (v y l l' c δ : Int) (w : World) (hl : -1000000000 ≤ l ∧ l ≤ 1000000000) (hδ : -1000000000 ≤ δ ∧ δ ≤ 1000000000) (h1 : (f.toList == []) = true → l' = l) (h2 : (f.toList == []) = false → l' = l + δ) :
    Calls Tryz.prog 37 #[.agg #[.string s, .int .i64 v, .int .i64 y, .string f, .int .i64 l, .int .i64 c], .agg #[.string s, .int .i64 v, .int .i64 y, .string f, .int .i64 l', .int .i64 c], .int .i64 δ] w fun e w' => e = .returned (.bool true) ∧ Kept [] w w' := by
  have hw : IntKind.i64.wrap (l + δ) = l + δ := by rw [IntKind.wrap_i64]; omega
  cases hf : (f.toList == [])
  · have e := h2 hf
    subst e
    clear h1 h2
    go_enter Tryz.func37, Tryz.ntmps37
    go_wp2
    go_ret
    exact ⟨rfl, ((Kept.refl _ _).alloc _).alloc _⟩
  · have e := h1 hf
    subst e
    clear h1 h2
    go_enter Tryz.func37, Tryz.ntmps37
    go_wp2
    go_ret
    exact ⟨rfl, ((Kept.refl _ _).alloc _).alloc _⟩

theorem rw_off {w : World} {g o : Nat} {cur : Array Value} {t : TypeId} {L : List Rw} (h : w.heap[g]? = some (.cells cur t (0, 0))) (hx : ∀ (j : Nat) v, (rwsV L)[j]? = some v → cur[o + j]? = some v) (k : Nat) (hk : k < L.length) :
    w.cell? ⟨g, o + k * 6, none⟩ = some (.string L[k].label) ∧ w.cell? ⟨g, o + k * 6 + 1, none⟩ = some (.int .i64 L[k].verdict) ∧ w.cell? ⟨g, o + k * 6 + 2, none⟩ = some (.int .i64 L[k].why) ∧ w.cell? ⟨g, o + k * 6 + 3, none⟩ = some (.string L[k].at_.file) ∧ w.cell? ⟨g, o + k * 6 + 4, none⟩ = some (.int .i64 L[k].at_.line) ∧ w.cell? ⟨g, o + k * 6 + 5, none⟩ = some (.int .i64 L[k].at_.col) := by
  have c := fun j (hj : j < 6) v (hv : (rwV L[k])[j]? = some v) => (cell_of h (o + (k * 6 + j))).trans (hx _ _ ((rwsV_at L k hk j hj).trans hv))
  exact ⟨c 0 (by omega) _ rfl, c 1 (by omega) _ rfl, c 2 (by omega) _ rfl, c 3 (by omega) _ rfl, c 4 (by omega) _ rfl, c 5 (by omega) _ rfl⟩
theorem πL_line (δ : Int) (p : Pl) : (πL δ p).file = p.file ∧ (πL δ p).col = p.col ∧ ((p.file.toList == []) = true → (πL δ p).line = p.line) ∧ ((p.file.toList == []) = false → (πL δ p).line = p.line + δ) := by
  unfold πL
  cases h : (p.file.toList == []) <;> simp

set_option maxHeartbeats 1000000 in
set_option maxRecDepth 100000 in
theorem sameRows_gen (g1 g2 o1 o2 c1 c2 : Nat) (L : List Rw) (δ : Int) (w : World) (cur1 cur2 : Array Value) (t1 t2 : TypeId) (h1 : w.heap[g1]? = some (.cells cur1 t1 (0, 0))) (h2 : w.heap[g2]? = some (.cells cur2 t2 (0, 0)))
    (x1 : ∀ (j : Nat) v, (rwsV L)[j]? = some v → cur1[o1 + j]? = some v) (x2 : ∀ (j : Nat) v, (rwsV (L.map (mapRw (πL δ))))[j]? = some v → cur2[o2 + j]? = some v) (hL : L.length ≤ 100000) (hl : ∀ r ∈ L, LnOk r.at_) (hδ : -1000000000 ≤ δ ∧ δ ≤ 1000000000) :
    Calls Tryz.prog 20 #[.slice (some ⟨g1, o1, none⟩) L.length c1, .slice (some ⟨g2, o2, none⟩) L.length c2, .int .i64 δ] w fun e w' => e = .returned (.bool true) ∧ Kept [] w w' := by
  have hg1 := lt_of_get h1
  have hg2 := lt_of_get h2
  go_enter Tryz.func20, Tryz.ntmps20
  go_wp2
  go_loopg [7, 8] L.length (fun g i _ wr => ∃ k : Nat, k ≤ L.length ∧ g = L.length - k ∧ i = .int .i64 k ∧ Kept [] w wr)
  case atStart => exact ⟨0, by omega, by omega, rfl, Kept.refl _ _⟩
  case round =>
    obtain ⟨k, hk, hg, rfl, hK⟩ := hrel
    by_cases hlt : k < L.length
    · obtain ⟨a0, a1, a2, a3, a4, a5⟩ := rw_off (hK.get h1 (by simp)) x1 k hlt
      obtain ⟨b0, b1, b2, b3, b4, b5⟩ := rw_off (hK.get h2 (by simp)) x2 k (by simpa using hlt)
      have hr := hl L[k] (List.getElem_mem hlt)
      have hs := hK.size
      rw [List.getElem_map] at b0 b1 b2 b3 b4 b5
      have hπ := πL_line δ L[k].at_
      generalize L[k] = r at *
      obtain ⟨la, ve, wy, ⟨fi, li, co⟩⟩ := r
      simp only [LnOk, mapRw] at a0 a1 a2 a3 a4 a5 b0 b1 b2 b3 b4 b5 hr hπ
      rw [hπ.1] at b3
      rw [hπ.2.1] at b5
      have HSR := (show Hid _ from fun w' => sameRow_by la fi ve wy li (πL δ ⟨fi, li, co⟩).line co δ w' hr hδ hπ.2.2.1 hπ.2.2.2)
      clear hπ
      generalize (πL δ ⟨fi, li, co⟩).line = li' at *
      go_upto_region 6 with fail
      go_region_with (go_at_call 37; refine (HSR.out _).mono ?_; rintro e w2 ⟨rfl, hk2⟩)
      all_goals
        have hK2 := hK.trans ((Kept.refl [] wr).drew.trans hk2)
        go_wp2
        go_roundg (L.length - (k + 1))
        case measure => omega
        case rel => exact ⟨k + 1, by omega, rfl, by go_num, hK2⟩
    · go_wp2
      go_ret
      exact ⟨rfl, hK⟩
theorem sameRows_nilBy (a1 a2 : Option Addr) (c1 c2 : Nat) (δ : Int) (w : World) :
    Calls Tryz.prog 20 #[.slice a1 0 c1, .slice a2 0 c2, .int .i64 δ] w fun e w' => e = .returned (.bool true) ∧ Kept [] w w' := by
  go_enter Tryz.func20, Tryz.ntmps20
  go_wp2
  refine wp_loop_rounds 1 ?_
  rw [rounds_succ]
  go_wp2
  go_ret
  exact ⟨rfl, Kept.refl _ _⟩

end Go.Proofs.YtcipkfhpcbddiaaGreat

/- Parted: what see says of the three texts; their rows. -/
namespace Go.Proofs.YtcipkfhpcbddiaaGreat
open Go.RowKit

/-- see, where reading says this. -/
theorem see_rd (b x : Nat) (T t U : ByteArray) (δ : Int) (o : Option Nat) (fs fs' : List (ByteArray × ByteArray)) (w : World) (hW : WorldAt w b x T o) (hV : SomeAt w x fs) (hx : x ≠ b) (ht : ¬ 1024 < t.size) (hp : putF fs ⟨#[109]⟩ t = (0, fs')) (h0 : findF fs' ⟨#[109]⟩ = 0) (hl : 0 < fs'.length) (hok : FilesOk fs')
    (hR : (readAll fs' 0).1 = fltTail U δ) :
    Calls Tryz.prog 18 #[.pointer (some ⟨b, 0, none⟩), .string t] w fun e w' => CoreSays b x T o fs' (rdM U).1.1 (lineAt U (rdM U).1.2 + δ) (colAt U (rdM U).1.2) (readAll fs' 0).2.2.sts w e w' := by
  refine see_core b x T t o fs fs' _ _ _ _ w hW hV hx ht hp (read_rec fs' hok 0).ok.len ?_
  intro w' hv
  refine (verify_any x 0 fs' ⟨#[109]⟩ w' hv h0 hl hok).mono ?_
  rintro e w'' ⟨hc, hK⟩
  refine ⟨?_, hK⟩
  rw [hR] at hc
  unfold fltTail at hc
  cases hr : ((rdM U).1.1 == 0) with
  | true =>
    simp only [hr, if_true] at hc ⊢
    rw [if_pos (by rfl)] at hc
    exact hc
  | false =>
    simp only [hr, Bool.false_eq_true, if_false] at hc ⊢
    exact hc

theorem put_only (fs : List (ByteArray × ByteArray)) (t : ByteArray) (h : fs = [] ∨ ∃ u, fs = [(⟨#[109]⟩, u)]) (ht : ¬ 1024 < t.size) : putF fs ⟨#[109]⟩ t = (0, [(⟨#[109]⟩, t)]) := by
  have hc : checkF ⟨#[109]⟩ t = 0 := by simp [checkF, mName_is, ht]
  rcases h with rfl | ⟨u, rfl⟩
  · simp [putF, hc, findF, findFrom]
  · simp [putF, hc, findF, findFrom]
theorem iName_is : isNameF ⟨#[105]⟩ = true := by decide +kernel
theorem im_ne : ((⟨#[109]⟩ : ByteArray).toList == (⟨#[105]⟩ : ByteArray).toList) = false ∧ ((⟨#[105]⟩ : ByteArray).toList == (⟨#[109]⟩ : ByteArray).toList) = false := by decide +kernel
theorem put_i (u T : ByteArray) (hT : T.size ≤ 1024) : putF [(⟨#[109]⟩, u)] ⟨#[105]⟩ T = (0, [(⟨#[109]⟩, u), (⟨#[105]⟩, T)]) := by
  have hc : checkF ⟨#[105]⟩ T = 0 := by
    unfold checkF
    rw [if_neg (by rw [iName_is]; simp), if_neg (by omega)]
  unfold putF
  rw [if_neg (by rw [hc]; simp)]
  have hf : findF [(⟨#[109]⟩, u)] ⟨#[105]⟩ = -1 := by
    simp only [findF, findFrom, im_ne.1]; simp
  rw [hf]
  simp
theorem put_mi (u T t : ByteArray) (ht : ¬ 1024 < t.size) : putF [(⟨#[109]⟩, u), (⟨#[105]⟩, T)] ⟨#[109]⟩ t = (0, [(⟨#[109]⟩, t), (⟨#[105]⟩, T)]) := by
  have hc : checkF ⟨#[109]⟩ t = 0 := by simp [checkF, mName_is, ht]
  simp [putF, hc, findF, findFrom]
theorem find_m (u : ByteArray) (r : List (ByteArray × ByteArray)) : findF ((⟨#[109]⟩, u) :: r) ⟨#[109]⟩ = 0 := by simp [findF, findFrom]
theorem find_i (u T : ByteArray) : findF [(⟨#[109]⟩, u), (⟨#[105]⟩, T)] ⟨#[105]⟩ = 1 := by
  simp only [findF, findFrom, im_ne.1]; simp
theorem files_one (t : ByteArray) (h : ¬ 1024 < t.size) : FilesOk [(⟨#[109]⟩, t)] := by
  rw [filesOk_all]; intro f hf; rw [List.mem_singleton.1 hf]; simp only; omega
theorem files_two (t T : ByteArray) (h : ¬ 1024 < t.size) (hT : T.size ≤ 1024) : FilesOk [(⟨#[109]⟩, t), (⟨#[105]⟩, T)] := by
  rw [filesOk_all]; intro f hf
  simp only [List.mem_cons, List.not_mem_nil, or_false] at hf
  rcases hf with rfl | rfl
  · simp only; omega
  · exact hT
theorem mok_two (t T : ByteArray) (h : ¬ 1024 < t.size) (hT : T.size ≤ 1024) : MOk 1 [(⟨#[109]⟩, t), (⟨#[105]⟩, T)] := ⟨Or.inl ⟨⟨0, by simp, find_m _ _⟩, by simp⟩, files_two t T h hT⟩
theorem mok_one (t : ByteArray) (h : ¬ 1024 < t.size) : MOk 0 [(⟨#[109]⟩, t)] := ⟨Or.inl ⟨⟨0, by simp, find_m _ _⟩, by simp⟩, files_one t h⟩

/-- Reading the text and the chunk. -/
theorem read_U (U : ByteArray) (hs : ¬ 1024 < U.size) (hi : holdsF U = false) : (readAll [(⟨#[109]⟩, U)] 0).1 = fltTail U 0 ∧ (readAll [(⟨#[109]⟩, U)] 0).2.2.sts = (rdM U).2.sts := by
  have hp := readAll_plain [(⟨#[109]⟩, U)] 0 (by omega) (by show U.size ≤ 1024; omega) (noInc_of U hi)
  rw [hp]
  refine ⟨?_, rfl⟩
  show fltOf ⟨#[109]⟩ U (rdM U).1 = _
  unfold fltOf fltTail plAt
  split
  · rfl
  · simp

theorem mapRw_id (L : List Rw) : L.map (mapRw (fun p => p)) = L := by
  have : mapRw (fun p => p) = id := rfl
  rw [this, List.map_id]
/-- The rows of the three texts. -/
theorem parted_rows (T c : ByteArray) (hT : Fine T) (hs : ¬ 1024 < (T ++ ⟨#[10]⟩ ++ c).size) (hi : holdsF (T ++ ⟨#[10]⟩ ++ c) = false) :
    ∃ M, rowsM (T ++ ⟨#[10]⟩ ++ c) = rowsM T ++ M ∧
      rowsF (mapSts (fun i => if i < (rdM T).2.sts.length then (fun p => p) else πL 1) (rdM (T ++ ⟨#[10]⟩ ++ c)).2.sts) = rowsM T ++ M.map (mapRw (πL 1)) ∧
      ∀ δ, rowsF (mapSts (fun i => if i < (rdM T).2.sts.length then πF else πL δ) (rdM (T ++ ⟨#[10]⟩ ++ c)).2.sts) = (rowsM T).map (mapRw πF) ++ M.map (mapRw (πL δ)) := by
  obtain ⟨m, hm⟩ := more_sts T c hT
  have gU := rdM_rec (T ++ ⟨#[10]⟩ ++ c) (by omega) hi
  have gT := hT.good
  rw [hm] at gU
  have key := fun π₁ π₂ h1 h2 => rows_map π₁ π₂ h1 h2 (rdM T).2.sts m gU.ok gU.prf gT.ok gT.prf
  obtain ⟨M, e1, e2⟩ := key (fun p => p) (πL 1) id_map (πL_map 1)
  refine ⟨M, ?_, ?_, ?_⟩
  · unfold rowsM; rw [hm]; exact e1
  · rw [hm, e2, mapRw_id]; rfl
  · intro δ
    obtain ⟨M', e3, e4⟩ := key πF (πL δ) πF_map (πL_map δ)
    have : M' = M := List.append_cancel_left (e3.symm.trans e1)
    subst this
    rw [hm]; exact e4

def adrO : Option Nat → Option Addr
  | none => none
  | some g => some ⟨g, 0, none⟩
theorem sl_eq {w : World} {o : Option Nat} {L : List Rw} (h : RowsAt w o L) : rowsSl o L.length = .slice (adrO o) L.length L.length := by
  cases o with
  | none => have hn : L = [] := h
            subst hn; rfl
  | some g => rfl

end Go.Proofs.YtcipkfhpcbddiaaGreat

/- Package metaproofkeep: moved. -/
namespace Go.Proofs.YtcipkfhpcbddiaaGreat
open Go.RowKit

theorem faultEql (r : Int) (s : ByteArray) (l c : Int) (w : World) : (binOp .eql 41 (.agg #[.int .i64 r, .string s, .int .i64 l, .int .i64 c]) (.agg #[.int .i64 r, .string s, .int .i64 l, .int .i64 c])).run Tryz.prog w = .ok (.bool true) w := by
  rw [run_eql_struct, show (10000 : Nat) = 9997 + 3 from rfl, faultEq]; simp
attribute [local go_sem] faultEql

set_option maxHeartbeats 800000 in
theorem moved_zero (f : ByteArray) (l c δ : Int) (w : World) :
    Calls Tryz.prog 19 #[.agg #[.int .i64 0, .string f, .int .i64 l, .int .i64 c], .agg #[.int .i64 0, .string f, .int .i64 l, .int .i64 c], .int .i64 δ] w fun e w' => e = .returned (.bool true) ∧ Kept [] w w' := by
  go_enter Tryz.func19, Tryz.ntmps19
  go_wp2
  go_ret
  exact ⟨rfl, ((Kept.refl _ _).alloc _).alloc _⟩
set_option maxHeartbeats 800000 in
theorem moved_any (r : Int) (f : ByteArray) (l c δ : Int) (w : World) (hr : (r == 0) = false) (hl : -1000000000 ≤ l ∧ l ≤ 1000000000) (hδ : -1000000000 ≤ δ ∧ δ ≤ 1000000000) :
    Calls Tryz.prog 19 #[.agg #[.int .i64 r, .string f, .int .i64 l, .int .i64 c], .agg #[.int .i64 r, .string f, .int .i64 (l + δ), .int .i64 c], .int .i64 δ] w fun e w' => e = .returned (.bool true) ∧ Kept [] w w' := by
  have hw : IntKind.i64.wrap (l + δ) = l + δ := by rw [IntKind.wrap_i64]; omega
  go_enter Tryz.func19, Tryz.ntmps19
  go_wp2
  go_ret
  exact ⟨rfl, ((Kept.refl _ _).alloc _).alloc _⟩

end Go.Proofs.YtcipkfhpcbddiaaGreat

/- Parted: what is read, said once. -/
namespace Go.Proofs.YtcipkfhpcbddiaaGreat
open Go.RowKit

theorem nm_one (n u : ByteArray) (r : List (ByteArray × ByteArray)) : fileNm ((n, u) :: r) 0 = n ∧ fileDt ((n, u) :: r) 0 = u := by
  unfold fileNm fileDt; exact ⟨rfl, rfl⟩
theorem nm_two (n u m v : ByteArray) : fileNm [(n, u), (m, v)] 1 = m ∧ fileDt [(n, u), (m, v)] 1 = v := by
  unfold fileNm fileDt; exact ⟨rfl, rfl⟩
theorem read_K1 (T c : ByteArray) (hT : Fine T) (hh : holdsF c = false) (hk : ¬ 1024 < (T ++ litC ++ c).size) : (readAll [(⟨#[109]⟩, T ++ litC ++ c)] 0).1 = fltTail (T ++ ⟨#[10]⟩ ++ c) 1 ∧ (readAll [(⟨#[109]⟩, T ++ litC ++ c)] 0).2.2.sts = mapSts (fun i => if i < (rdM T).2.sts.length then (fun p => p) else πL 1) (rdM (T ++ ⟨#[10]⟩ ++ c)).2.sts :=
  read_K T c hT hh _ 0 (by omega) (nm_one _ _ _).1 (nm_one _ _ _).2 (by omega)
theorem read_I1 (T c : ByteArray) (hT : Fine T) (hh : holdsF c = false) (hI : ¬ 1024 < (litI ++ c).size) : (readAll [(⟨#[109]⟩, litI ++ c), (⟨#[105]⟩, T)] 0).1 = fltTail (T ++ ⟨#[10]⟩ ++ c) (1 - lineAt T T.size) ∧ (readAll [(⟨#[109]⟩, litI ++ c), (⟨#[105]⟩, T)] 0).2.2.sts = mapSts (fun i => if i < (rdM T).2.sts.length then πF else πL (1 - lineAt T T.size)) (rdM (T ++ ⟨#[10]⟩ ++ c)).2.sts :=
  read_I T c hT hh _ 0 1 (Or.inl ⟨rfl, rfl⟩) (nm_one _ _ _).1 (nm_one _ _ _).2 (nm_two _ _ _ _).1 (nm_two _ _ _ _).2 (find_m _ _) (find_i _ _) (by omega)
theorem see_U (b x : Nat) (T U : ByteArray) (o : Option Nat) (fs : List (ByteArray × ByteArray)) (w : World) (hW : WorldAt w b x T o) (hV : SomeAt w x fs) (hx : x ≠ b) (hM : MOk 0 fs) (hl : ¬ 1024 < U.size) (hi : holdsF U = false) :
    Calls Tryz.prog 18 #[.pointer (some ⟨b, 0, none⟩), .string U] w fun e w' => CoreSays b x T o [(⟨#[109]⟩, U)] (rdM U).1.1 (lineAt U (rdM U).1.2) (colAt U (rdM U).1.2) (rdM U).2.sts w e w' := by
  have rU := read_U U hl hi
  have SU := see_rd b x T U U 0 o fs _ w hW hV hx hl (put_only fs _ (mok0 hM.1) hl) (find_m _ _) (by simp) (files_one _ hl) rU.1
  rw [rU.2, Int.add_zero] at SU
  exact SU
theorem see_one (b x : Nat) (T K U u : ByteArray) (δ : Int) (l : List St) (o : Option Nat) (w : World) (hW : WorldAt w b x T o) (hV : SomeAt w x [(⟨#[109]⟩, u)]) (hx : x ≠ b) (hk : ¬ 1024 < K.size) (rK : (readAll [(⟨#[109]⟩, K)] 0).1 = fltTail U δ ∧ (readAll [(⟨#[109]⟩, K)] 0).2.2.sts = l) :
    Calls Tryz.prog 18 #[.pointer (some ⟨b, 0, none⟩), .string K] w fun e w' => CoreSays b x T o [(⟨#[109]⟩, K)] (rdM U).1.1 (lineAt U (rdM U).1.2 + δ) (colAt U (rdM U).1.2) l w e w' := by
  have SK := see_rd b x T K U δ o _ _ w hW hV hx hk (put_only _ _ (Or.inr ⟨_, rfl⟩) hk) (find_m _ _) (by simp) (files_one _ hk) rK.1
  rw [rK.2] at SK
  exact SK
theorem see_two (b x : Nat) (T K U u : ByteArray) (δ : Int) (l : List St) (o : Option Nat) (w : World) (hW : WorldAt w b x T o) (hV : SomeAt w x [(⟨#[109]⟩, u), (⟨#[105]⟩, T)]) (hx : x ≠ b) (hTs : T.size ≤ 1024) (hk : ¬ 1024 < K.size) (rK : (readAll [(⟨#[109]⟩, K), (⟨#[105]⟩, T)] 0).1 = fltTail U δ ∧ (readAll [(⟨#[109]⟩, K), (⟨#[105]⟩, T)] 0).2.2.sts = l) :
    Calls Tryz.prog 18 #[.pointer (some ⟨b, 0, none⟩), .string K] w fun e w' => CoreSays b x T o [(⟨#[109]⟩, K), (⟨#[105]⟩, T)] (rdM U).1.1 (lineAt U (rdM U).1.2 + δ) (colAt U (rdM U).1.2) l w e w' := by
  have SI := see_rd b x T K U δ o _ _ w hW hV hx hk (put_mi _ T K hk) (find_m _ _) (by simp) (files_two _ T hk hTs) rK.1
  rw [rK.2] at SI
  exact SI
/-- All that parted sees, said of the texts as it writes them. U, K, I: the text and the chunk; a comment between; the text included. -/
structure Sees (b x : Nat) (T c U K I : ByteArray) (o : Option Nat) (r ln cl : Int) (RU RK RI : List Rw) : Prop where
  u : ¬ 1024 < U.size → ∀ (fs : List (ByteArray × ByteArray)) (w : World), MOk 0 fs → WorldAt w b x T o → SomeAt w x fs → Calls Tryz.prog 18 #[.pointer (some ⟨b, 0, none⟩), .string U] w fun e w' => ∃ l, rowsF l = RU ∧ CoreSays b x T o [(⟨#[109]⟩, U)] r ln cl l w e w'
  k : ¬ 1024 < K.size → ∀ (v : ByteArray) (w : World), WorldAt w b x T o → SomeAt w x [(⟨#[109]⟩, v)] → Calls Tryz.prog 18 #[.pointer (some ⟨b, 0, none⟩), .string K] w fun e w' => ∃ l, rowsF l = RK ∧ CoreSays b x T o [(⟨#[109]⟩, K)] r (ln + 1) cl l w e w'
  i : ¬ 1024 < I.size → ∀ (v : ByteArray) (w : World), WorldAt w b x T o → SomeAt w x [(⟨#[109]⟩, v), (⟨#[105]⟩, T)] → Calls Tryz.prog 18 #[.pointer (some ⟨b, 0, none⟩), .string I] w fun e w' => ∃ l, rowsF l = RI ∧ CoreSays b x T o [(⟨#[109]⟩, I), (⟨#[105]⟩, T)] r (ln + (1 - lineAt T T.size)) cl l w e w'
  sk : K.size = T.size + 23 + c.size
  si : I.size = 24 + c.size
  su : U.size = T.size + 1 + c.size
theorem sees (b x : Nat) (T c U K I : ByteArray) (o : Option Nat) (hx : x ≠ b) (hT : Fine T) (hh : holdsF c = false) (eU : T ++ ⟨#[10]⟩ ++ c = U) (eK : T ++ litC ++ c = K) (eI : litI ++ c = I) (hl : ¬ 1024 < U.size) :
    ∃ M, rowsM U = rowsM T ++ M ∧ Sees b x T c U K I o (rdM U).1.1 (lineAt U (rdM U).1.2) (colAt U (rdM U).1.2) (rowsM T ++ M) (rowsM T ++ M.map (mapRw (πL 1))) ((rowsM T).map (mapRw πF) ++ M.map (mapRw (πL (1 - lineAt T T.size)))) := by
  have hUi : holdsF U = false := by rw [← eU]; exact holds_more T c hT.inc hh
  have hrows : ∃ M, rowsM U = rowsM T ++ M ∧ rowsF (mapSts (fun i => if i < (rdM T).2.sts.length then (fun p => p) else πL 1) (rdM U).2.sts) = rowsM T ++ M.map (mapRw (πL 1)) ∧ ∀ δ, rowsF (mapSts (fun i => if i < (rdM T).2.sts.length then πF else πL δ) (rdM U).2.sts) = (rowsM T).map (mapRw πF) ++ M.map (mapRw (πL δ)) := by
    subst eU; exact parted_rows T c hT hl hUi
  have rK : ¬ 1024 < K.size → (readAll [(⟨#[109]⟩, K)] 0).1 = fltTail U 1 ∧ (readAll [(⟨#[109]⟩, K)] 0).2.2.sts = mapSts (fun i => if i < (rdM T).2.sts.length then (fun p => p) else πL 1) (rdM U).2.sts := by
    subst eK eU; exact read_K1 T c hT hh
  have rI : ¬ 1024 < I.size → (readAll [(⟨#[109]⟩, I), (⟨#[105]⟩, T)] 0).1 = fltTail U (1 - lineAt T T.size) ∧ (readAll [(⟨#[109]⟩, I), (⟨#[105]⟩, T)] 0).2.2.sts = mapSts (fun i => if i < (rdM T).2.sts.length then πF else πL (1 - lineAt T T.size)) (rdM U).2.sts := by
    subst eI eU; exact read_I1 T c hT hh
  have sK : K.size = T.size + 23 + c.size := by subst eK; exact K_size T c
  have sI : I.size = 24 + c.size := by subst eI; exact I_size c
  have sU : U.size = T.size + 1 + c.size := by subst eU; simp only [ByteArray.size_append]; rfl
  clear eU eK eI
  obtain ⟨M, h1, h2, h3⟩ := hrows
  refine ⟨M, h1, ⟨?_, ?_, ?_, sK, sI, sU⟩⟩
  · intro _ fs w hM hW hV
    exact (see_U b x T U o fs w hW hV hx hM hl hUi).mono (fun e w' h => ⟨_, h1, h⟩)
  · intro hk v w hW hV
    exact (see_one b x T K U v 1 _ o w hW hV hx hk (rK hk)).mono (fun e w' h => ⟨_, h2, h⟩)
  · intro hI v w hW hV
    exact (see_two b x T I U v _ _ o w hW hV hx hT.size hI (rI hI)).mono (fun e w' h => ⟨_, h3 _, h⟩)

end Go.Proofs.YtcipkfhpcbddiaaGreat
