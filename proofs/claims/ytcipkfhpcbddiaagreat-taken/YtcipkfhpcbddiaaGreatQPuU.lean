import Derived.Test.YtcipkfhpcbddiaaGreatQPuT
/- Parted: the two texts. No walk. -/
namespace Go.Proofs.YtcipkfhpcbddiaaGreat
open Go.RowKit

def litC : ByteArray := ⟨#[10, 36, 40, 32, 97, 32, 36, 91, 32, 99, 111, 109, 109, 101, 110, 116, 32, 36, 46, 32, 36, 41, 10]⟩
def comC : ByteArray := ⟨#[36, 40, 32, 97, 32, 36, 91, 32, 99, 111, 109, 109, 101, 110, 116, 32, 36, 46, 32, 36, 41]⟩
def litI : ByteArray := ⟨#[36, 91, 32, 105, 32, 36, 93, 32, 36, 91, 32, 109, 32, 36, 93, 32, 36, 91, 32, 105, 32, 36, 93, 10]⟩
def hdI : ByteArray := ⟨#[36, 91, 32, 105, 32, 36, 93, 32, 36, 91, 32, 109, 32, 36, 93, 32, 36, 91, 32, 105, 32, 36, 93]⟩
theorem litC_size : litC.size = 23 := by decide +kernel
theorem comC_size : comC.size = 21 := by decide +kernel
theorem litI_size : litI.size = 24 := by decide +kernel
theorem litI_is : litI = hdI ++ ⟨#[10]⟩ := by decide +kernel
theorem hdI_size : hdI.size = 23 := by decide +kernel
theorem litC_bytes : ∀ i, i < 22 → byteAt litC (i + 1) = byteAt (comC ++ ⟨#[10]⟩) i := by decide +kernel
theorem litC_lf : byteAt litC 0 = 10 := by decide +kernel
theorem comRun : isWordF (runF comC 0).1 = true ∧ ((runF comC 0).1.text.toList == [36, 40]) = true ∧ (runF comC 0).1.fin = false ∧ (runF comC 0).2 = 2 := by decide +kernel
theorem comCom : isWordF (commentF comC 2).1 = true ∧ (commentF comC 2).1.rule = 0 ∧ (commentF comC 2).2 = 21 := by decide +kernel
theorem comEnd : (nextF comC 21).1.fin = true ∧ (nextF comC 21).1.rule = 0 := by decide +kernel

/-- The comment is passed over. -/
theorem com_next (c : ByteArray) : nextF (comC ++ ⟨#[10]⟩ ++ c) 0 = nextF (comC ++ ⟨#[10]⟩ ++ c) 22 := by
  have pr := pre_of comC c
  have r := (run_pre pr 0 (Nat.zero_le _)).1 comRun.2.2.1
  have cm := comment_pre pr 2 (by rw [comC_size]; omega) (by rw [comCom.2.1]; simp)
  have ne := (next_pre pr 21 (by rw [comC_size]; omega) (by rw [comEnd.2]; simp)).2 comEnd.1
  rw [comC_size] at ne
  rw [next_on _ 0 (Nat.zero_le _) (by rw [r]; exact comRun.1) (by rw [r]; exact comRun.2.1) (by rw [r, comRun.2.2.2, cm]; exact comCom.1), r, comRun.2.2.2, cm, comCom.2.2]
  exact ne
theorem K_size (T c : ByteArray) : (T ++ litC ++ c).size = T.size + 23 + c.size := by rw [ByteArray.size_append, ByteArray.size_append, litC_size]
theorem K_mid (T c : ByteArray) (i : Nat) (h : i < 23) : byteAt (T ++ litC ++ c) (T.size + i) = byteAt litC i := by
  rw [byteAt_append_left _ _ _ (by rw [ByteArray.size_append, litC_size]; omega), byteAt_append_right T litC i (by rw [litC_size]; exact h)]
theorem K_right (T c : ByteArray) (i : Nat) (h : i < c.size) : byteAt (T ++ litC ++ c) (T.size + 23 + i) = byteAt c i := by
  have := byteAt_append_right (T ++ litC) c i h
  rw [ByteArray.size_append, litC_size] at this; exact this
theorem K_tail (T c : ByteArray) : Tail T c (T ++ litC ++ c) (T.size + 23) := ⟨K_size T c, fun i hi => K_right T c i hi⟩
theorem K_pre (T c : ByteArray) : Pre T (T ++ litC ++ c) := by
  refine ⟨by rw [K_size]; omega, fun i hi => ?_, ?_⟩
  · rw [byteAt_append_left _ _ _ (by rw [ByteArray.size_append]; omega), byteAt_append_left _ _ _ hi]
  · have := K_mid T c 0 (by omega)
    rw [Nat.add_zero, litC_lf] at this; exact this
theorem K_next (T c : ByteArray) : nextF (T ++ litC ++ c) (T.size + 1) = nextF (T ++ litC ++ c) (T.size + 23) := by
  have s1 : (comC ++ ⟨#[10]⟩).size = 22 := by rw [ByteArray.size_append, comC_size, lf_size]
  have s2 : (comC ++ ⟨#[10]⟩ ++ c).size = 22 + c.size := by rw [ByteArray.size_append, s1]
  have sh : Shf (comC ++ ⟨#[10]⟩ ++ c) (T ++ litC ++ c) 0 (T.size + 1) := by
    refine ⟨Nat.zero_le _, by rw [K_size, s2]; omega, fun k _ hk => ?_⟩
    rw [s2] at hk
    rcases Nat.lt_or_ge k 22 with h | h
    · rw [show k - 0 + (T.size + 1) = T.size + (k + 1) by omega, K_mid T c (k + 1) (by omega), litC_bytes k h, byteAt_append_left (comC ++ ⟨#[10]⟩) c k (by rw [s1]; exact h)]
    · obtain ⟨i, rfl⟩ : ∃ i, k = 22 + i := ⟨k - 22, by omega⟩
      rw [show 22 + i - 0 + (T.size + 1) = T.size + 23 + i by omega, K_right T c i (by omega)]
      have := byteAt_append_right (comC ++ ⟨#[10]⟩) c i (by omega)
      rw [s1] at this; exact this.symm
  have e0 := next_sh sh 0 (Nat.le_refl _) (Nat.zero_le _)
  have e1 := next_sh sh 22 (Nat.zero_le _) (by rw [s2]; omega)
  rw [show 0 - 0 + (T.size + 1) = T.size + 1 by omega] at e0
  rw [show 22 - 0 + (T.size + 1) = T.size + 23 by omega] at e1
  rw [e0, e1, com_next c]
theorem litC_line : ∀ i, i < 23 → (byteAt litC i == 10) = (i == 0 || i == 22) := by decide +kernel
theorem K_line (T c : ByteArray) : lineAt (T ++ litC ++ c) (T.size + 23) = lineAt T T.size + 2 ∧ colAt (T ++ litC ++ c) (T.size + 23) = 1 := by
  have pr := K_pre T c
  have h0 := (line_pre pr T.size (Nat.le_refl _)).1
  have step : ∀ i, i ≤ 22 → lineAt (T ++ litC ++ c) (T.size + i) = lineAt T T.size + (if i = 0 then 0 else 1) := by
    intro i
    induction i with
    | zero => intro _; rw [Nat.add_zero, h0]; simp
    | succ i ih =>
      intro hi
      rw [← Nat.add_assoc, lineAt, K_mid T c i (by omega), ih (by omega), litC_line i (by omega)]
      by_cases e : i = 0
      · subst e; simp
      · have e2 : (i == 0 || i == 22) = false := by simp; omega
        rw [e2]; simp [e]
  have h22 := step 22 (Nat.le_refl _)
  refine ⟨?_, ?_⟩
  · rw [show T.size + 23 = T.size + 22 + 1 by omega, lineAt, K_mid T c 22 (by omega), h22, litC_line 22 (by omega)]
    simp; omega
  · rw [show T.size + 23 = T.size + 22 + 1 by omega, colAt, K_mid T c 22 (by omega), litC_line 22 (by omega)]
    simp

/-- What the chunk's fault becomes. -/
def fltTail (U : ByteArray) (δ : Int) : Flt := if ((rdM U).1.1 == 0) = true then noFlt else ((rdM U).1.1, ⟨⟨#[109]⟩, lineAt U (rdM U).1.2 + δ, colAt U (rdM U).1.2⟩)
theorem fltTail_of (T c V : ByteArray) (a' : Nat) (hT : Fine T) (h : Tail T c V a') (hcol : colAt V a' = 1) :
    fltOf ⟨#[109]⟩ V (shQ (T.size + 1) a' (rdM (T ++ ⟨#[10]⟩ ++ c)).1) = fltTail (T ++ ⟨#[10]⟩ ++ c) (lineAt V a' - (lineAt T T.size + 1)) := by
  unfold fltOf fltTail shQ
  cases hr : ((rdM (T ++ ⟨#[10]⟩ ++ c)).1.1 == 0) with
  | true => simp only [if_true, hr]
  | false =>
    simp only [Bool.false_eq_true, if_false, hr]
    have hne : (rdM (T ++ ⟨#[10]⟩ ++ c)).1.1 ≠ 0 := by simpa using hr
    have rp := (read_pre (pre_of T c) ⟨#[109]⟩ 0 emptyDb (Nat.zero_le _) hT.ok).2
    have e : rdM (T ++ ⟨#[10]⟩ ++ c) = readF ⟨#[109]⟩ (T ++ ⟨#[10]⟩ ++ c) (T.size + 1) (rdM T).2 := rp
    have sz : (T ++ ⟨#[10]⟩ ++ c).size = T.size + 1 + c.size := by rw [ByteArray.size_append, ByteArray.size_append, lf_size]
    have hp := readF_pos ⟨#[109]⟩ (T ++ ⟨#[10]⟩ ++ c) (T.size + 1) (rdM T).2 (by omega) (by rw [← e]; exact hne)
    rw [← e] at hp
    have lu := line_U T c
    have ls := line_sh (tail_shf T c V a' h).1 (by rw [hcol, lu.2]) _ hp.1 hp.2
    unfold plAt
    rw [ls.1, ls.2, lu.1]

/-- Said of the text with a comment between. -/
theorem read_K (T c : ByteArray) (hT : Fine T) (hc : holdsF c = false) (fs : List (ByteArray × ByteArray)) (x : Nat) (hx : x < 4) (hn : fileNm fs x = ⟨#[109]⟩) (hd : fileDt fs x = T ++ litC ++ c) (hs : (T ++ litC ++ c).size ≤ 1024) :
    (readAll fs x).1 = fltTail (T ++ ⟨#[10]⟩ ++ c) 1 ∧ (readAll fs x).2.2.sts = mapSts (fun i => if i < (rdM T).2.sts.length then (fun p => p) else πL 1) (rdM (T ++ ⟨#[10]⟩ ++ c)).2.sts := by
  have kl := K_line T c
  have kt := K_tail T c
  have sz := K_size T c
  have hb : bg0.getD x true = false := by
    match x, hx with
    | 0, _ => rfl
    | 1, _ => rfl
    | 2, _ => rfl
    | 3, _ => rfl
  have e0 : readAll fs x = readGo fs 5000 x 0 (bg0.set x true) emptyDb := by unfold readAll fileR; rw [if_neg (by rw [hb]; simp)]
  obtain ⟨f', hf', e1⟩ := go_pre fs x T (by rw [hd]; exact K_pre T c) (noInc_of T hT.inc) _ 5000 0 (bg0.set x true) emptyDb (Nat.le_refl _) (Nat.zero_le _) (by rw [hn]; exact hT.ok) (by omega)
  have e2 := readGo_congr fs f' x (T.size + 1) (T.size + 23) (bg0.set x true) (readF (fileNm fs x) T 0 emptyDb).2 (by rw [hd]; exact K_next T c)
  have e3 := go_from fs x (T.size + 23) (by rw [hd]; exact tail_noInc T c _ _ kt hc) f' (T.size + 23) (bg0.set x true) (readF (fileNm fs x) T 0 emptyDb).2 (Nat.le_refl _) (by rw [hd]; omega) (by rw [hd]; omega)
  have ed : (rdM T).2 = { (rdM T).2 with sts := (rdM T).2.sts.map (mapSt (fun p => p)) } := by
    have : (rdM T).2.sts.map (mapSt (fun p => p)) = (rdM T).2.sts := by
      rw [show mapSt (fun p => p) = id from funext mapSt_id, List.map_id]
    rw [this]
  have er : (readF (fileNm fs x) T 0 emptyDb).2 = (rdM T).2 := by rw [hn]; rfl
  have tr := tail_read T c (T ++ litC ++ c) (T.size + 23) hT kt kl.2 (fun p => p)
  rw [← ed] at tr
  have eδ : lineAt (T ++ litC ++ c) (T.size + 23) - (lineAt T T.size + 1) = 1 := by rw [kl.1]; omega
  have ft := fltTail_of T c (T ++ litC ++ c) (T.size + 23) hT kt kl.2
  rw [eδ] at tr ft
  rw [e0, e1, e2, e3, er, hn, hd, tr]
  exact ⟨ft, rfl⟩

end Go.Proofs.YtcipkfhpcbddiaaGreat
