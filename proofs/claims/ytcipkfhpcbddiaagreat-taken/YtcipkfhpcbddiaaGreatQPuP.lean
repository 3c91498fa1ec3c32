import Derived.Test.YtcipkfhpcbddiaaGreatG15
/- What holds of a record's places holds of the rows' places. No walk. -/
namespace Go.Proofs.YtcipkfhpcbddiaaGreat
open Go.RowKit

/-- A property of places that no column turns. -/
structure PlP (P : Pl → Prop) : Prop where
  none : P noPl
  col : ∀ p c, P p → P { p with col := c }
theorem PlP.flt {P : Pl → Prop} (h : PlP P) : P noFlt.2 := h.none
def PsOk (P : Pl → Prop) (l : List St) : Prop := ∀ s ∈ l, P s.fin ∧ ∀ x ∈ s.proof, P x.2

theorem norm_pp {P : Pl → Prop} (hP : PlP P) (l : List St) (a : Nat) (fin : Pl) (hf : P fin) (ws : List (ByteArray × Pl)) (hw : ∀ x ∈ ws, P x.2) : ∀ acc, (∀ s ∈ acc, P s.at_) → (∀ s ∈ (normF l a fin ws acc).1, P s.at_) ∧ P (normF l a fin ws acc).2.2 := by
  induction ws with
  | nil =>
    intro acc ha
    rw [normF]
    split
    · exact ⟨by simp, hf⟩
    · exact ⟨ha, hP.flt⟩
  | cons x r ih =>
    intro acc ha
    obtain ⟨t, p⟩ := x
    have hp := hw (t, p) (by simp)
    have hr := fun y hy => hw y (List.mem_cons_of_mem _ hy)
    have hacc : ∀ k n, ∀ s ∈ acc ++ [(⟨k, n, p⟩ : Stp)], P s.at_ := by
      intro k n s hs
      rcases List.mem_append.1 hs with hs | hs
      · exact ha s hs
      · rw [List.mem_singleton.1 hs]; exact hp
    rw [normF]
    split
    · exact ih hr _ (hacc _ _)
    · split
      · exact ⟨by simp, hp⟩
      · exact ih hr _ (hacc _ _)
theorem block_pp {P : Pl → Prop} (hP : PlP P) (l : List St) (a : Nat) (fin : Pl) (hf : P fin) (ws : List (ByteArray × Pl)) (hw : ∀ x ∈ ws, P x.2) : ∀ i ns, P (blockL l a fin i ws ns).1.2.2 := by
  induction ws with
  | nil => intro i ns; exact hf
  | cons x r ih =>
    intro i ns
    obtain ⟨t, p⟩ := x
    have hp := hw (t, p) (by simp)
    rw [blockL]
    split
    · exact hP.flt
    · split
      · exact hp
      · split
        · exact hp
        · exact ih (fun y hy => hw y (List.mem_cons_of_mem _ hy)) _ _
def CmpPp (P : Pl → Prop) (c : Cmp) : Prop := ∀ s ∈ c.steps, P s.at_
theorem add_pp {P : Pl → Prop} (_hP : PlP P) {c : Cmp} (h : CmpPp P c) (s : Stp) (hs : P s.at_) : ∀ x ∈ c.steps ++ [s], P x.at_ := by
  intro x hx
  rcases List.mem_append.1 hx with hx | hx
  · exact h x hx
  · rw [List.mem_singleton.1 hx]; exact hs
theorem let_pp {P : Pl → Prop} (hP : PlP P) {c : Cmp} (h : CmpPp P c) (n : Nat) (p : Pl) (hp : P p) : CmpPp P (takeLetF c n p).2 := by
  unfold takeLetF
  split
  · unfold endNumF
    split
    · exact add_pp hP h _ hp
    · split
      · exact add_pp hP h _ hp
      · exact h
  · split
    · unfold takeDigF; split <;> exact h
    · split
      · exact h
      · split
        · exact add_pp hP h _ hp
        · exact h
theorem word_pp {P : Pl → Prop} (hP : PlP P) (t : ByteArray) (p : Pl) (hp : P p) (f : Nat) : ∀ j c, CmpPp P c → CmpPp P (wordLet t p f j c).2 ∧ P (wordLet t p f j c).1.2 := by
  induction f with
  | zero => intro j c h; exact ⟨h, hP.flt⟩
  | succ f ih =>
    intro j c h
    rw [wordLet]
    split
    · split
      · exact ih _ _ (let_pp hP h _ _ (hP.col _ _ hp))
      · exact ⟨let_pp hP h _ _ (hP.col _ _ hp), hP.col _ _ hp⟩
    · exact ⟨h, hP.flt⟩
theorem words_pp {P : Pl → Prop} (hP : PlP P) (ws : List (ByteArray × Pl)) (hw : ∀ x ∈ ws, P x.2) : ∀ c, CmpPp P c → CmpPp P (wordsLF ws c).2 ∧ P (wordsLF ws c).1.2 := by
  induction ws with
  | nil => intro c h; exact ⟨h, hP.flt⟩
  | cons x r ih =>
    intro c h
    obtain ⟨t, p⟩ := x
    have h1 := word_pp hP t p (hw (t, p) (by simp)) (t.size + 1) 0 c h
    rw [wordsLF]
    split
    · exact ih (fun y hy => hw y (List.mem_cons_of_mem _ hy)) _ h1.1
    · exact h1
theorem prf_pp {P : Pl → Prop} (hP : PlP P) (l : List St) (a : Nat) (s : St) (hf : P s.fin) (hw : ∀ x ∈ s.proof, P x.2) : (∀ x ∈ (prfF l a s).1, P x.at_) ∧ P (prfF l a s).2.2 := by
  unfold prfF
  split
  · unfold compF
    have hR : CmpPp P (compR l a s).2 ∧ P (compR l a s).1.2 := by
      unfold compR onw
      split
      · exact words_pp hP _ (fun y hy => hw y (List.mem_of_mem_drop hy)) _ (by intro x hx; cases hx)
      · exact ⟨(by intro x hx; cases hx), block_pp hP l a s.fin hf _ (fun y hy => hw y (List.mem_of_mem_drop hy)) _ _⟩
    unfold compE
    split
    · split
      · split
        · exact ⟨by simp, hf⟩
        · exact ⟨hR.1, hP.flt⟩
      · exact ⟨by simp, hf⟩
    · exact ⟨by simp, hR.2⟩
  · exact norm_pp hP l a s.fin hf s.proof hw [] (by simp)
theorem play_pp {P : Pl → Prop} (hP : PlP P) (l : List St) (vs : List ByteArray) (ms : List Bool) (fin : Pl) (hf : P fin) (goal : List ByteArray) (steps : List Stp) (h : ∀ x ∈ steps, P x.at_) : ∀ S, P (playAll l vs ms fin goal steps S).2 := by
  induction steps with
  | nil =>
    intro S
    rw [playAll]
    unfold leftF
    split
    · exact hf
    · split
      · exact hP.flt
      · exact hf
    · exact hf
  | cons s r ih =>
    intro S
    rw [playAll]
    split
    · exact ih (fun y hy => h y (List.mem_cons_of_mem _ hy)) _
    · exact h s (by simp)
theorem judge_pp {P : Pl → Prop} (hP : PlP P) (l : List St) (n : Nat) (s : St) (L : List Rw) (hf : P s.fin) (hw : ∀ x ∈ s.proof, P x.2) : P (judgeF l n s L).at_ := by
  have hp := prf_pp hP l n s hf hw
  unfold judgeF
  have hfl : P (if (unkF (prfF l n s).1).isNone = true ∧ ((prfF l n s).2.1 == 0) = true then playAllF l n s (prfF l n s).1 else (prfF l n s).2).2 := by
    split
    · exact play_pp hP _ _ _ _ hf _ _ hp.1 _
    · exact hp.2
  generalize (if (unkF (prfF l n s).1).isNone = true ∧ ((prfF l n s).2.1 == 0) = true then playAllF l n s (prfF l n s).1 else (prfF l n s).2) = f at *
  unfold judgeR
  split
  · split
    · next u hu =>
      show P (((prfF l n s).1[u]?).map Stp.at_ |>.getD noPl)
      cases e : (prfF l n s).1[u]? with
      | none => exact hP.none
      | some x => exact hp.1 x (List.mem_of_getElem? e)
    · split <;> exact hP.none
  · exact hfl
theorem up_pp {P : Pl → Prop} (hP : PlP P) (l : List St) (h : PsOk P l) (k : Nat) : ∀ r ∈ rowsUp l k, P r.at_ := by
  induction k with
  | zero => intro r hr; cases hr
  | succ k ih =>
    intro r hr
    rw [rowsUp] at hr
    rcases List.mem_append.1 hr with hr | hr
    · exact ih r hr
    · rw [List.mem_singleton.1 hr]
      unfold oneRow
      split
      · next s hs =>
        have hm := h s (List.mem_of_getElem? hs)
        split
        · exact hP.none
        · split
          · exact judge_pp hP l k s _ hm.1 hm.2
          · exact hP.none
      · exact hP.none

theorem rows_pp {P : Pl → Prop} (hP : PlP P) (l : List St) (h : PsOk P l) : ∀ r ∈ rowsF l, P r.at_ := fun r hr => up_pp hP l h _ r (List.mem_filter.1 hr).1

/-- Places of one file. -/
structure FileIs (n : ByteArray) (d : Db) : Prop where
  now : ∀ x ∈ d.proof, x.2.file = n
  sts : ∀ s ∈ d.sts, s.fin.file = n ∧ ∀ x ∈ s.proof, x.2.file = n
theorem FileIs.take {n : ByteArray} {d : Db} (h : FileIs n d) (x : ByteArray) (p : Pl) (hp : p.file = n) : FileIs n (takeF d x p).2 := by
  refine ⟨?_, ?_⟩
  · rcases take_proof d x p with e | e | e
    · rw [e]; exact h.now
    · rw [e]; simp
    · rw [e]
      intro y hy
      rcases List.mem_append.1 hy with hy | hy
      · exact h.now y hy
      · rw [List.mem_singleton.1 hy]; exact hp
  · rcases take_sts d x p with e | ⟨y, _, e⟩ | ⟨e, _⟩
    · rw [e]; exact h.sts
    · rw [e]
      intro s hs
      obtain ⟨s', hs', e1, e2, e3⟩ := mem_endSts hs
      rw [e2, e3]; exact h.sts s' hs'
    · rw [e]
      intro s hs
      rcases List.mem_append.1 hs with hs | hs
      · exact h.sts s hs
      · rw [List.mem_singleton.1 hs]; exact ⟨hp, h.now⟩
theorem file_read (n s : ByteArray) (f : Nat) : ∀ k d, FileIs n d → FileIs n (readTo n s f k d).2 := by
  induction f with
  | zero => intro k d h; exact h
  | succ f ih =>
    intro k d h
    rw [readTo]
    split
    · split
      · exact ih _ _ (h.take _ _ rfl)
      · exact h.take _ _ rfl
    · split
      · split <;> exact h
      · exact h
theorem rdM_file (T : ByteArray) : FileIs ⟨#[109]⟩ (rdM T).2 := file_read _ T _ 0 emptyDb ⟨by simp [emptyDb], by simp [emptyDb]⟩
/-- A row's place is none, or one of the file m. -/
theorem rowsM_file (T : ByteArray) : ∀ r ∈ rowsM T, r.at_.file = ⟨#[]⟩ ∨ r.at_.file = ⟨#[109]⟩ :=
  rows_pp (P := fun p => p.file = ⟨#[]⟩ ∨ p.file = ⟨#[109]⟩) ⟨Or.inl rfl, fun _ _ h => h⟩ (rdM T).2.sts (fun s hs => ⟨Or.inr ((rdM_file T).sts s hs).1, fun x hx => Or.inr (((rdM_file T).sts s hs).2 x hx)⟩)

end Go.Proofs.YtcipkfhpcbddiaaGreat
