/- Our texts: Fore, PuL, Rp5. -/
import Derived.Test.YtkancbaldeeijaaGreatG12
import Derived.Test.YtkancbaldeeijaaGreatG17
import Derived.Test.YtkancbaldeeijaaGreatG20
import Derived.Test.YtkancbaldeeijaaGreatG27
/- The rows look only at what stands ahead: what follows turns none of them. No walk. -/
namespace Go.Proofs.YtkancbaldeeijaaGreat
open Go.RowKit

theorem held_fore (l m : List St) (n a : Nat) (h : a ≤ l.length) : heldF (l ++ m) n a = heldF l n a := by
  unfold heldF
  rcases Nat.lt_or_ge n l.length with hn | hn
  · rw [List.getElem?_append_left hn]
  · rw [List.getElem?_eq_none (l := l) hn]
    cases e : (l ++ m)[n]? with
    | none => rfl
    | some s =>
      have hd : decide (n < a) = false := decide_eq_false (by omega)
      show (decide (n < a) && _) = false
      rw [hd]; rfl
theorem held_far (l : List St) (n a : Nat) (h : a ≤ n) : heldF l n a = false := by
  unfold heldF
  cases e : l[n]? with
  | none => rfl
  | some s =>
    have hd : decide (n < a) = false := decide_eq_false (by omega)
    show (decide (n < a) && _) = false
    rw [hd]; rfl
theorem filter_fore (N k : Nat) (p q : Nat → Bool) (h : ∀ n, n < N → p n = q n) (h2 : ∀ n, N ≤ n → p n = false) : (List.range (N + k)).filter p = (List.range N).filter q := by
  induction k with
  | zero => exact List.filter_congr (fun x hx => h x (by simpa using hx))
  | succ k ih =>
    rw [← Nat.add_assoc, List.range_succ, List.filter_append, ih]
    simp [h2 (N + k) (by omega)]
theorem fm_congr {α : Type} (l : List Nat) (p q : Nat → Option α) (h : ∀ x ∈ l, p x = q x) : l.filterMap p = l.filterMap q := by
  induction l with
  | nil => rfl
  | cons x r ih => rw [List.filterMap_cons, List.filterMap_cons, h x (by simp), ih (fun y hy => h y (List.mem_cons_of_mem _ hy))]
theorem filterMap_fore {α : Type} (N k : Nat) (p q : Nat → Option α) (h : ∀ n, n < N → p n = q n) (h2 : ∀ n, N ≤ n → p n = none) : (List.range (N + k)).filterMap p = (List.range N).filterMap q := by
  induction k with
  | zero => exact fm_congr _ _ _ (fun x hx => h x (by simpa using hx))
  | succ k ih =>
    rw [← Nat.add_assoc, List.range_succ, List.filterMap_append, ih]
    simp [h2 (N + k) (by omega)]
theorem find_fore (N k : Nat) (p q : Nat → Bool) (h : ∀ n, n < N → p n = q n) (h2 : ∀ n, N ≤ n → p n = false) : (List.range (N + k)).find? p = (List.range N).find? q := by
  rw [← List.head?_filter, ← List.head?_filter, filter_fore N k p q h h2]

theorem findH_fore (l m : List St) (t : ByteArray) (a : Nat) (h : a ≤ l.length) : findHF (l ++ m) t a = findHF l t a := by
  unfold findHF
  rw [List.length_append]
  refine find_fore _ _ _ _ (fun n hn => ?_) (fun n hn => ?_)
  · unfold namesF; rw [List.getElem?_append_left hn, held_fore l m n a h]
  · unfold namesF
    cases e : (l ++ m)[n]? with
    | none => rfl
    | some s => simp only; rw [held_far _ n a (by omega), Bool.and_false]
theorem syms_fore (l m : List St) (n : Nat) (h : n < l.length) : symsAt (l ++ m) n = symsAt l n := by
  unfold symsAt; rw [List.getElem?_append_left h]
theorem symsOf_fore (l m : List St) (a : Nat) (h : a < l.length) : symsOfF (l ++ m) a = symsOfF l a := by
  unfold symsOfF symsTo
  rw [List.length_append, filter_fore l.length m.length (essF (l ++ m) a) (essF l a), syms_fore l m a h]
  · congr 1
    rw [List.flatMap_def, List.flatMap_def]
    congr 1
    refine List.map_congr_left (fun x hx => syms_fore l m x ?_)
    have := (List.mem_filter.1 hx).1
    simpa using this
  · intro n hn; unfold essF; rw [List.getElem?_append_left hn, held_fore l m n a (by omega)]
  · intro n hn
    unfold essF
    cases e : (l ++ m)[n]? with
    | none => rfl
    | some s => simp only; rw [held_far _ n a (by omega), Bool.and_false]
theorem hyps_fore (l m : List St) (a : Nat) (h : a < l.length) : hypsF (l ++ m) a = hypsF l a := by
  unfold hypsF hypsTo
  rw [List.length_append, symsOf_fore l m a h]
  refine filter_fore _ _ _ _ (fun n hn => ?_) (fun n hn => ?_)
  · unfold mandAt; rw [List.getElem?_append_left hn, held_fore l m n a (by omega)]
  · unfold mandAt
    cases e : (l ++ m)[n]? with
    | none => rfl
    | some s => simp only; rw [held_far _ n a (by omega), Bool.false_and]
theorem marksTo_fore (l m : List St) (a : Nat) (h : a < l.length) (vs : List ByteArray) (k : Nat) (hk : k ≤ l.length) : marksTo (l ++ m) a vs k = marksTo l a vs k := by
  induction k with
  | zero => rfl
  | succ k ih =>
    have e : disjF (l ++ m) a k = disjF l a k := by unfold disjF; rw [List.getElem?_append_left (by omega), held_fore l m k a (by omega)]
    rw [marksTo, marksTo, e, ih (by omega), syms_fore l m k (by omega)]
theorem marks_fore (l m : List St) (a : Nat) (h : a < l.length) (vs : List ByteArray) : marksF (l ++ m) a vs = marksF l a vs := by
  unfold marksF
  rw [List.length_append]
  generalize m.length = k
  induction k with
  | zero => exact marksTo_fore l m a h vs l.length (Nat.le_refl _)
  | succ k ih =>
    rw [← Nat.add_assoc, marksTo, if_neg, ih]
    have : disjF (l ++ m) a (l.length + k) = false := by
      unfold disjF
      cases e : (l ++ m)[l.length + k]? with
      | none => rfl
      | some s => simp only; rw [held_far _ _ a (by omega), Bool.and_false]
    rw [this]; simp
theorem av_fore (l m : List St) (a : Nat) (h : a < l.length) : avF (l ++ m) a = avF l a := by
  unfold avF avTo
  rw [List.length_append]
  refine filterMap_fore _ _ _ _ (fun n hn => ?_) (fun n hn => ?_)
  · unfold avOne; rw [List.getElem?_append_left hn, held_fore l m n a (by omega)]
  · unfold avOne
    cases e : (l ++ m)[n]? with
    | none => rfl
    | some s => simp only; rw [held_far _ n a (by omega)]; simp
theorem block_fore (l m : List St) (a : Nat) (h : a < l.length) (fin : Pl) (ws : List (ByteArray × Pl)) : ∀ i ns, blockL (l ++ m) a fin i ws ns = blockL l a fin i ws ns := by
  induction ws with
  | nil => intro i ns; rfl
  | cons x r ih =>
    intro i ns
    obtain ⟨t, p⟩ := x
    rw [blockL, blockL, findH_fore l m t a (by omega)]
    simp only [ih]
theorem norm_fore (l m : List St) (a : Nat) (h : a < l.length) (fin : Pl) (ws : List (ByteArray × Pl)) : ∀ acc, normF (l ++ m) a fin ws acc = normF l a fin ws acc := by
  induction ws with
  | nil => intro acc; rfl
  | cons x r ih =>
    intro acc
    obtain ⟨t, p⟩ := x
    rw [normF, normF, findH_fore l m t a (by omega)]
    simp only [ih]
theorem prf_fore (l m : List St) (a : Nat) (h : a < l.length) (s : St) : prfF (l ++ m) a s = prfF l a s := by
  unfold prfF compF compR
  rw [norm_fore l m a h, hyps_fore l m a h, block_fore l m a h]

theorem getD_fore (l m : List St) (n : Nat) (h : n < l.length) : (l ++ m).getD n stD = l.getD n stD := by
  rw [List.getD_eq_getElem?_getD, List.getD_eq_getElem?_getD, List.getElem?_append_left h]
theorem fitAll_fore (l m : List St) (hs : List Nat) (h : ∀ x ∈ hs, x < l.length) : ∀ es S, fitAll (l ++ m) hs es S = fitAll l hs es S := by
  induction hs with
  | nil => intro es S; simp [fitAll]
  | cons x r ih =>
    intro es S
    cases es with
    | nil => simp [fitAll]
    | cons e es =>
      rw [fitAll, fitAll, getD_fore l m x (h x (by simp))]
      simp only [ih (fun y hy => h y (by simp [hy]))]
theorem keep_fore (l m : List St) (n : Nat) (h : n < l.length) (S : Sbs) (vs : List ByteArray) (ms : List Bool) : keepF (l ++ m) n S vs ms = keepF l n S vs ms := by
  unfold keepF keepP
  rw [marks_fore l m n h]
theorem apply_fore (l m : List St) (n : Nat) (h : n < l.length) (vs : List ByteArray) (ms : List Bool) (th : List (List ByteArray)) : applyF (l ++ m) n vs ms th = applyF l n vs ms th := by
  unfold applyF applyR
  rw [hyps_fore l m n h, getD_fore l m n h, fitAll_fore l m _ (fun x hx => hypsF_lt hx)]
  simp only [keep_fore l m n h]
theorem show_fore (l m : List St) (vs : List ByteArray) (ms : List Bool) (sh th : List (List ByteArray)) (s : Stp) (h : (s.kind == 3) = false → s.number < l.length) : showF (l ++ m) vs ms sh th s = showF l vs ms sh th s := by
  unfold showF
  cases hk : (s.kind == 3) with
  | true => rfl
  | false =>
    have hn := h hk
    have e : isAt (l ++ m) s.number = isAt l s.number := by unfold isAt; rw [List.getElem?_append_left hn]
    rw [e, apply_fore l m _ hn, hyps_fore l m _ hn, getD_fore l m _ hn]
theorem playAll_fore (l m : List St) (vs : List ByteArray) (ms : List Bool) (fin : Pl) (goal : List ByteArray) (steps : List Stp) (h : ∀ s ∈ steps, (s.kind == 3) = false → s.number < l.length) :
    ∀ S, playAll (l ++ m) vs ms fin goal steps S = playAll l vs ms fin goal steps S := by
  induction steps with
  | nil => intro S; rfl
  | cons s r ih =>
    intro S
    have e : playF (l ++ m) vs ms S s = playF l vs ms S s := by unfold playF; rw [show_fore l m vs ms S.1 S.2 s (h s (by simp))]
    rw [playAll, playAll, e]
    simp only [ih (fun y hy => h y (by simp [hy]))]
theorem judge_fore (l m : List St) (n : Nat) (ok : RecOk l) (hn : n < l.length) (okp : PrfOk l[n]) (L : List Rw) : judgeF (l ++ m) n l[n] L = judgeF l n l[n] L := by
  unfold judgeF playAllF
  rw [prf_fore l m n hn, av_fore l m n hn, marks_fore l m n hn, playAll_fore l m _ _ _ _ _ (prf_ok l n ok hn okp).named]
theorem one_fore (l m : List St) (n : Nat) (ok : RecOk l) (hn : n < l.length) (okp : PrfOk l[n]) (L : List Rw) : oneRow (l ++ m) n L = oneRow l n L := by
  unfold oneRow
  rw [List.getElem?_append_left hn, List.getElem?_eq_getElem hn]
  simp only [judge_fore l m n ok hn okp]
theorem up_fore (l m : List St) (ok : RecOk l) (okp : ∀ i (hi : i < l.length), PrfOk l[i]) (k : Nat) (hk : k ≤ l.length) : rowsUp (l ++ m) k = rowsUp l k := by
  induction k with
  | zero => rfl
  | succ k ih => rw [rowsUp, rowsUp, ih (by omega), one_fore l m k ok (by omega) (okp k (by omega))]

/-- The rows that are told: those of assertions. -/
def rowsF (l : List St) : List Rw := (rowsUp l l.length).filter (fun r => !(r.verdict == 0))
theorem rows_fore (l m : List St) (ok : RecOk l) (okp : ∀ i (hi : i < l.length), PrfOk l[i]) : ∃ t, rowsF (l ++ m) = rowsF l ++ t := by
  have h : ∀ k, ∃ t, rowsUp (l ++ m) (l.length + k) = rowsUp l l.length ++ t := by
    intro k
    induction k with
    | zero => exact ⟨[], by rw [Nat.add_zero, up_fore l m ok okp _ (Nat.le_refl _)]; simp⟩
    | succ k ih =>
      obtain ⟨t, ht⟩ := ih
      exact ⟨_, by rw [← Nat.add_assoc, rowsUp]; conv => lhs; arg 1; rw [ht]
                   rw [List.append_assoc]⟩
  obtain ⟨t, ht⟩ := h m.length
  refine ⟨t.filter (fun r => !(r.verdict == 0)), ?_⟩
  unfold rowsF
  rw [List.length_append, ht, List.filter_append]

end Go.Proofs.YtkancbaldeeijaaGreat

/- The places that rows tell are places of the record. No walk. -/
namespace Go.Proofs.YtkancbaldeeijaaGreat
open Go.RowKit

theorem ln_no : LnOk noPl := by unfold LnOk noPl; simp
theorem ln_noFlt : LnOk noFlt.2 := by unfold LnOk noFlt; simp
theorem ln_col {p : Pl} (h : LnOk p) (c : Int) : LnOk { p with col := c } := h

theorem norm_ln (l : List St) (a : Nat) (fin : Pl) (hf : LnOk fin) (ws : List (ByteArray × Pl)) (hw : ∀ x ∈ ws, LnOk x.2) : ∀ acc, (∀ s ∈ acc, LnOk s.at_) → (∀ s ∈ (normF l a fin ws acc).1, LnOk s.at_) ∧ LnOk (normF l a fin ws acc).2.2 := by
  induction ws with
  | nil =>
    intro acc ha
    rw [normF]
    split
    · exact ⟨by simp, hf⟩
    · exact ⟨ha, ln_noFlt⟩
  | cons x r ih =>
    intro acc ha
    obtain ⟨t, p⟩ := x
    have hp := hw (t, p) (by simp)
    have hr := fun y hy => hw y (List.mem_cons_of_mem _ hy)
    have hacc : ∀ k n, ∀ s ∈ acc ++ [(⟨k, n, p⟩ : Stp)], LnOk s.at_ := by
      intro k n s hs
      rcases List.mem_append.1 hs with hs | hs
      · exact ha s hs
      · rw [List.mem_singleton.1 hs]; exact hp
    rw [normF]
    split
    · exact ih hr _ (hacc _ _)
    · split
      · exact ⟨by simp, hp⟩
      · exact ih hr _ (hacc _ _)
theorem block_ln (l : List St) (a : Nat) (fin : Pl) (hf : LnOk fin) (ws : List (ByteArray × Pl)) (hw : ∀ x ∈ ws, LnOk x.2) : ∀ i ns, LnOk (blockL l a fin i ws ns).1.2.2 := by
  induction ws with
  | nil => intro i ns; exact hf
  | cons x r ih =>
    intro i ns
    obtain ⟨t, p⟩ := x
    have hp := hw (t, p) (by simp)
    rw [blockL]
    split
    · exact ln_noFlt
    · split
      · exact hp
      · split
        · exact hp
        · exact ih (fun y hy => hw y (List.mem_cons_of_mem _ hy)) _ _
def CmpLn (c : Cmp) : Prop := ∀ s ∈ c.steps, LnOk s.at_
theorem add_ln {c : Cmp} (h : CmpLn c) (s : Stp) (hs : LnOk s.at_) : ∀ x ∈ c.steps ++ [s], LnOk x.at_ := by
  intro x hx
  rcases List.mem_append.1 hx with hx | hx
  · exact h x hx
  · rw [List.mem_singleton.1 hx]; exact hs
theorem let_ln {c : Cmp} (h : CmpLn c) (n : Nat) (p : Pl) (hp : LnOk p) : CmpLn (takeLetF c n p).2 := by
  unfold takeLetF
  split
  · unfold endNumF
    split
    · exact add_ln h _ hp
    · split
      · exact add_ln h _ hp
      · exact h
  · split
    · unfold takeDigF; split <;> exact h
    · split
      · exact h
      · split
        · exact add_ln h _ hp
        · exact h
theorem word_ln (t : ByteArray) (p : Pl) (hp : LnOk p) (f : Nat) : ∀ j c, CmpLn c → CmpLn (wordLet t p f j c).2 ∧ LnOk (wordLet t p f j c).1.2 := by
  induction f with
  | zero => intro j c h; exact ⟨h, ln_noFlt⟩
  | succ f ih =>
    intro j c h
    rw [wordLet]
    split
    · split
      · exact ih _ _ (let_ln h _ _ (ln_col hp _))
      · exact ⟨let_ln h _ _ (ln_col hp _), ln_col hp _⟩
    · exact ⟨h, ln_noFlt⟩
theorem words_ln (ws : List (ByteArray × Pl)) (hw : ∀ x ∈ ws, LnOk x.2) : ∀ c, CmpLn c → CmpLn (wordsLF ws c).2 ∧ LnOk (wordsLF ws c).1.2 := by
  induction ws with
  | nil => intro c h; exact ⟨h, ln_noFlt⟩
  | cons x r ih =>
    intro c h
    obtain ⟨t, p⟩ := x
    have h1 := word_ln t p (hw (t, p) (by simp)) (t.size + 1) 0 c h
    rw [wordsLF]
    split
    · exact ih (fun y hy => hw y (List.mem_cons_of_mem _ hy)) _ h1.1
    · exact h1
theorem prf_ln (l : List St) (a : Nat) (s : St) (hf : LnOk s.fin) (hw : ∀ x ∈ s.proof, LnOk x.2) : (∀ x ∈ (prfF l a s).1, LnOk x.at_) ∧ LnOk (prfF l a s).2.2 := by
  unfold prfF
  split
  · unfold compF
    have hR : CmpLn (compR l a s).2 ∧ LnOk (compR l a s).1.2 := by
      unfold compR onw
      split
      · exact words_ln _ (fun y hy => hw y (List.mem_of_mem_drop hy)) _ (by intro x hx; cases hx)
      · exact ⟨(by intro x hx; cases hx), block_ln l a s.fin hf _ (fun y hy => hw y (List.mem_of_mem_drop hy)) _ _⟩
    unfold compE
    split
    · split
      · split
        · exact ⟨by simp, hf⟩
        · exact ⟨hR.1, ln_noFlt⟩
      · exact ⟨by simp, hf⟩
    · exact ⟨by simp, hR.2⟩
  · exact norm_ln l a s.fin hf s.proof hw [] (by simp)
theorem play_ln (l : List St) (vs : List ByteArray) (ms : List Bool) (fin : Pl) (hf : LnOk fin) (goal : List ByteArray) (steps : List Stp) (h : ∀ x ∈ steps, LnOk x.at_) : ∀ S, LnOk (playAll l vs ms fin goal steps S).2 := by
  induction steps with
  | nil =>
    intro S
    rw [playAll]
    unfold leftF
    split
    · exact hf
    · split
      · exact ln_noFlt
      · exact hf
    · exact hf
  | cons s r ih =>
    intro S
    rw [playAll]
    split
    · exact ih (fun y hy => h y (List.mem_cons_of_mem _ hy)) _
    · exact h s (by simp)
theorem judge_ln (l : List St) (n : Nat) (s : St) (L : List Rw) (hf : LnOk s.fin) (hw : ∀ x ∈ s.proof, LnOk x.2) : LnOk (judgeF l n s L).at_ := by
  have hp := prf_ln l n s hf hw
  unfold judgeF
  have hfl : LnOk (if (unkF (prfF l n s).1).isNone = true ∧ ((prfF l n s).2.1 == 0) = true then playAllF l n s (prfF l n s).1 else (prfF l n s).2).2 := by
    split
    · exact play_ln _ _ _ _ hf _ _ hp.1 _
    · exact hp.2
  generalize (if (unkF (prfF l n s).1).isNone = true ∧ ((prfF l n s).2.1 == 0) = true then playAllF l n s (prfF l n s).1 else (prfF l n s).2) = f at *
  unfold judgeR
  split
  · split
    · next u hu =>
      show LnOk (((prfF l n s).1[u]?).map Stp.at_ |>.getD noPl)
      cases e : (prfF l n s).1[u]? with
      | none => exact ln_no
      | some x => exact hp.1 x (List.mem_of_getElem? e)
    · split <;> exact ln_no
  · exact hfl
theorem up_ln (l : List St) (h : LnsOk l) (k : Nat) : ∀ r ∈ rowsUp l k, LnOk r.at_ := by
  induction k with
  | zero => intro r hr; cases hr
  | succ k ih =>
    intro r hr
    rw [rowsUp] at hr
    rcases List.mem_append.1 hr with hr | hr
    · exact ih r hr
    · rw [List.mem_singleton.1 hr]
      unfold oneRow
      split
      · next s hs =>
        have hm := h s (List.mem_of_getElem? hs)
        split
        · exact ln_no
        · split
          · exact judge_ln l k s _ hm.1 hm.2
          · exact ln_no
      · exact ln_no
theorem Good.rows {l : List St} (h : Good l) : RwsOk (rowsF l) := by
  refine ⟨?_, fun r hr => up_ln l h.lns _ r (List.mem_filter.1 hr).1⟩
  have h1 := List.length_filter_le (fun r : Rw => !(r.verdict == 0)) (rowsUp l l.length)
  rw [rowsUp_len] at h1
  have := h.ok.len
  unfold rowsF
  omega

/-- The rows of a text. -/
def rowsM (T : ByteArray) : List Rw := rowsF (rdM T).2.sts
theorem rows_more (T c : ByteArray) (hT : Fine T) : ∃ m, rowsM (T ++ ⟨#[10]⟩ ++ c) = rowsM T ++ m := by
  obtain ⟨m, hm⟩ := more_sts T c hT
  have g := rdM_rec T hT.size hT.inc
  unfold rowsM
  rw [hm]
  exact rows_fore _ m g.ok g.prf

end Go.Proofs.YtkancbaldeeijaaGreat

/- Package report: On. -/
namespace Go.Proofs.YtkancbaldeeijaaGreat
open Go.RowKit

theorem made_rows (n : Nat) : madeCells (Value.agg #[.string ⟨#[]⟩, .int .i64 0, .int .i64 0, .string ⟨#[]⟩, .int .i64 0, .int .i64 0]).cells (n * 6) = (rwsV (List.replicate n zRw)).toArray := by
  have hc : (Value.agg #[.string ⟨#[]⟩, .int .i64 0, .int .i64 0, .string ⟨#[]⟩, .int .i64 0, .int .i64 0]).cells = (rwV zRw).toArray := by rfl
  rw [hc]
  apply Array.ext
  · rw [size_madeCells]; simp [rwsV_len]
  · intro i h1 h2
    rw [size_madeCells] at h1
    have hk : i / 6 < (List.replicate n zRw).length := by simp; omega
    have e := rwsV_at (List.replicate n zRw) (i / 6) hk (i % 6) (by omega)
    have ei : i / 6 * 6 + i % 6 = i := by omega
    have e2 : (List.replicate n zRw)[i / 6] = zRw := by simp
    rw [ei, e2] at e
    have h3 : i < (rwsV (List.replicate n zRw)).length := by simpa using h2
    have e3 : (rwsV (List.replicate n zRw)).toArray[i] = (rwsV (List.replicate n zRw))[i] := by simp
    rw [e3]
    have e4 : some (rwsV (List.replicate n zRw))[i] = (rwV zRw)[i % 6]? := by rw [← e, List.getElem?_eq_getElem h3]
    have l : some (madeCells (rwV zRw).toArray (n * 6))[i] = (rwV zRw)[i % 6]? := by
      have hj : i % 6 = 0 ∨ i % 6 = 1 ∨ i % 6 = 2 ∨ i % 6 = 3 ∨ i % 6 = 4 ∨ i % 6 = 5 := by omega
      have hs : (rwV zRw).toArray.size = 6 := rfl
      simp only [madeCells, Array.getElem_map, Array.getElem_range, hs]
      rcases hj with h | h | h | h | h | h <;> rw [h] <;> rfl
    exact Option.some.inj (l.trans e4.symm)
theorem pad_zero (l : List St) : padL l 0 = List.replicate l.length zRw := by simp [padL, rowsUp]

theorem build_rep (w : World) (a1 a2 a3 : Option Addr) (n1 c1 n2 c2 n3 c3 : Nat) : (Instr.build 65 #[(0, .agg #[.slice a1 n1 c1, .slice a2 n2 c2]), (1, .slice a3 n3 c3)]).run Tryz.prog w = .ok (.agg #[.slice a1 n1 c1, .slice a2 n2 c2, .slice a3 n3 c3]) w :=
  run_build w 65 _ _ (by kernel_rfl)
attribute [local go_sem] build_rep build_norep build_nofault

theorem sevenA_kept {w w2 : World} {A B : Nat} (h : Kept [] w w2) (hA : w.heap.size ≤ A) (hB : w.heap.size ≤ B) (u0 u1 u2 v0 v1 v2 v3 : Value) :
    Kept [] w (((((((w2.setCell ⟨A, 0, none⟩ u0).setCell ⟨A, 1, none⟩ u1).setCell ⟨A, 2, none⟩ u2).setCell ⟨B, 0, none⟩ v0).setCell ⟨B, 1, none⟩ v1).setCell ⟨B, 2, none⟩ v2).setCell ⟨B, 3, none⟩ v3) :=
  ((((((h.setCell (Or.inr hA) _).setCell (Or.inr hA) _).setCell (Or.inr hA) _).setCell (Or.inr hB) _).setCell (Or.inr hB) _).setCell (Or.inr hB) _).setCell (Or.inr hB) _

theorem sevenA_keptS (w2 : World) (A B : Nat) (u0 u1 u2 v0 v1 v2 v3 : Value) :
    Kept [A, B] w2 (((((((w2.setCell ⟨A, 0, none⟩ u0).setCell ⟨A, 1, none⟩ u1).setCell ⟨A, 2, none⟩ u2).setCell ⟨B, 0, none⟩ v0).setCell ⟨B, 1, none⟩ v1).setCell ⟨B, 2, none⟩ v2).setCell ⟨B, 3, none⟩ v3) :=
  (((((((Kept.refl [A, B] w2).setCell (Or.inl (by simp)) _).setCell (Or.inl (by simp)) _).setCell (Or.inl (by simp)) _).setCell (Or.inl (by simp)) _).setCell (Or.inl (by simp)) _).setCell (Or.inl (by simp)) _).setCell (Or.inl (by simp)) _

/-- What On leaves of a record. -/
def OnSays (fs : List (ByteArray × ByteArray)) (k0 : Nat) (w : World) (e : Ending) (w' : World) : Prop :=
  (if ((readAll fs k0).1.1 == 0) = true then ∃ (H : Nat → Hd) (g : Nat) (a7 : Option Addr) (n7 c7 : Nat),
      e = .returned (.tuple #[.agg #[.slice (H 6).ao (readAll fs k0).2.2.sts.length (H 6).cap, .slice a7 n7 c7, .slice (some ⟨g, 0, none⟩) (readAll fs k0).2.2.sts.length (readAll fs k0).2.2.sts.length], fltV noFlt]) ∧
      StsIs w' (readAll fs k0).2.2.sts H ∧ w'.heap[g]? = some (.cells (rwsV (rowsUp (readAll fs k0).2.2.sts (readAll fs k0).2.2.sts.length)).toArray 71 (0, 0)) ∧ (∀ k, InH H k → w.heap.size ≤ k) ∧ w.heap.size ≤ g
   else e = .returned (.tuple #[.agg #[.slice none 0 0, .slice none 0 0, .slice none 0 0], fltV (readAll fs k0).1])) ∧ Kept [] w w'

set_option maxHeartbeats 3000000 in
set_option maxRecDepth 100000 in
theorem on_any (v tt k0 : Nat) (fs : List (ByteArray × ByteArray)) (more : List Value) (w : World)
    (ht : TabAt w v tt fs more) (hk0 : k0 < fs.length) (hsz : ∀ j, j < fs.length → (fileDt fs j).size ≤ 1024) :
    Calls Tryz.prog 29 #[.pointer (some ⟨v, 0, none⟩), .int .i64 k0] w fun e w' => OnSays fs k0 w e w' := by
  have hvw := ht.lt
  obtain ⟨i0, hi, hz0, hz1, hz2⟩ := info_parts infoR
  have HG := (show Hid _ from read_rec fs hsz k0)
  obtain ⟨W, hW⟩ : ∃ W, W = (w.alloc (.cells #[.slice none 0 0, .slice none 0 0, .slice none 0 0] 65)).alloc (.cells #[.int .i64 0, .string ⟨#[]⟩, .int .i64 0, .int .i64 0] 47) := ⟨_, rfl⟩
  have hK : Kept [] w W := by rw [hW]; exact ((Kept.refl [] _).alloc _).alloc _
  have hA : W.heap[w.heap.size]? = some (.cells #[.slice none 0 0, .slice none 0 0, .slice none 0 0] 65 (0, 0)) := by
    rw [hW]; exact ((Kept.refl [] _).alloc _).get (heap_alloc_new _ _) (by simp)
  have hF : W.heap[w.heap.size + 1]? = some (.cells zeroFault 47 (0, 0)) := by
    rw [hW]
    have e : (w.alloc (.cells #[.slice none 0 0, .slice none 0 0, .slice none 0 0] 65)).heap.size = w.heap.size + 1 := by simp
    rw [← e]; exact heap_alloc_new _ _
  have HW := (show Hid _ from hW.symm)
  have RD := read_any v tt k0 fs more W (ht.kept hK (by simp)) hk0 hsz
  have HRD := (show Hid _ from RD)
  clear RD hW
  unfold OnSays
  generalize readAll fs k0 = R at *
  obtain ⟨⟨r, pf, pl, pc⟩, bg', d'⟩ := R
  simp only [fltV, noFlt] at HRD HG ⊢
  generalize d'.sts = l at *
  generalize d'.rbl = rb at *
  go_enter Tryz.func29, Tryz.ntmps29
  go_wp2_with fail
  rw [HW.out]
  refine Calls.mono HRD.out ?_
  rintro e w2 ⟨hcase, hk2⟩
  have hA2 := hk2.get hA (by simp)
  have hF2 := hk2.get hF (by simp)
  have hz := hk2.size
  have hWz := lt_of_get hF
  cases hr : (r == 0)
  · have hr' : (r != 0) = true := by simp [bne, hr]
    simp only [hr, Bool.false_eq_true, if_false] at hcase ⊢
    subst hcase
    have a0 : w2.cell? ⟨w.heap.size, 0, none⟩ = some (.slice none 0 0) := by rw [cell_of hA2]; rfl
    have a1 : w2.cell? ⟨w.heap.size, 1, none⟩ = some (.slice none 0 0) := by rw [cell_of hA2]; rfl
    have a2 : w2.cell? ⟨w.heap.size, 2, none⟩ = some (.slice none 0 0) := by rw [cell_of hA2]; rfl
    obtain ⟨z0, z1, z2, z3⟩ := zero_cells hF2
    have ya := free_of hA2
    have yf := free_of hF2
    have hA2w := lt_of_get hA2
    have hF2w := lt_of_get hF2
    go_wp2_with fail
    go_region
    all_goals go_wp2
    all_goals exact bodyPost_ret (v := .tuple #[.agg #[.slice none 0 0, .slice none 0 0, .slice none 0 0], .agg #[.int .i64 r, .string pf, .int .i64 pl, .int .i64 pc]]) (by simp [results, Tryz.results29, go_sem, a0, a1, a2, z0, z1, z2, z3, hA2w, hF2w]) rfl ⟨rfl, (((sevenA_kept (hK.trans hk2) (Nat.le_refl _) (Nat.le_succ _) _ _ _ _ _ _ _).alloc _).alloc _).drew⟩
  · have hr' : (r != 0) = false := by simp [bne, hr]
    simp only [hr, if_true] at hcase ⊢
    obtain ⟨H0, rfl, hS0, hN0⟩ := hcase
    obtain ⟨hS, hT⟩ := hS0.trim
    have hE6 : H0 6 = trimH l H0 6 := (trimH_eq l H0 6 (Or.inl rfl)).symm
    rw [hE6]
    have hN : ∀ k, InH (trimH l H0) k → k < w2.heap.size ∧ w.heap.size + 2 ≤ k := fun k hk => ⟨(hT k hk).1, by have := hN0 k (hT k hk).2; omega⟩
    clear hS0 hN0 hT hE6
    generalize trimH l H0 = H at *
    generalize (H0 7).ao = a7 at *
    generalize (H0 7).cap = c7 at *
    generalize rb.length = n7 at *
    clear H0
    have HN := (show Hid _ from hN)
    have hlen := HG.out.ok.len
    obtain ⟨W3, hW3⟩ : ∃ W3, W3 = (w2.alloc (.cells #[.slice (H 6).ao l.length (H 6).cap, .slice a7 n7 c7] 63)).alloc (.cells #[.int .i64 0, .string ⟨#[]⟩, .int .i64 0, .int .i64 0] 47) := ⟨_, rfl⟩
    have k3 : Kept [] w2 W3 := by rw [hW3]; exact ((Kept.refl [] _).alloc _).alloc _
    have B3 : W3.heap[w2.heap.size]? = some (.cells #[.slice (H 6).ao l.length (H 6).cap, .slice a7 n7 c7] 63 (0, 0)) := by
      rw [hW3]; exact ((Kept.refl [] _).alloc _).get (heap_alloc_new _ _) (by simp)
    have hs3 : W3.heap.size = w2.heap.size + 2 := by rw [hW3]; simp
    have hS3 := hS.still k3
    have R3 : RecAt W3 w2.heap.size 0 l H := ⟨⟨_, _, B3, rfl⟩, hS3⟩
    have r0 : W3.cell? ⟨w2.heap.size, 0, none⟩ = some (.slice (H 6).ao l.length (H 6).cap) := by rw [cell_of B3]; rfl
    have r1 : W3.cell? ⟨w2.heap.size, 1, none⟩ = some (.slice a7 n7 c7) := by rw [cell_of B3]; rfl
    have HCA : Hid (∀ w', Kept [] W3 w' → Calls Tryz.prog 36 #[.pointer (some ⟨w2.heap.size, 0, none⟩)] w' fun e w'' => e = .returned (.int .i64 l.length) ∧ w'' = w') := fun w' q => count_any w2.heap.size 0 l H w' (R3.still q)
    have HRR : Hid (∀ w', Kept [] W3 w' → w'.cell? ⟨w2.heap.size, 0, none⟩ = some (.slice (H 6).ao l.length (H 6).cap) ∧ w'.cell? ⟨w2.heap.size, 1, none⟩ = some (.slice a7 n7 c7)) := fun w' q => by
      have q2 := q.get B3 (by simp)
      exact ⟨by rw [cell_of q2]; rfl, by rw [cell_of q2]; rfl⟩
    have m1 := fun w => run_make_row (P := Tryz.prog) w 34 71 i0 _ Tryz.underlying34 hi hz0 l.length 6 hz1 (by rw [hz2]; omega) (by omega)
    obtain ⟨mc, hmc⟩ : ∃ mc, mc = madeCells (Value.agg #[.string ⟨#[]⟩, .int .i64 0, .int .i64 0, .string ⟨#[]⟩, .int .i64 0, .int .i64 0]).cells (l.length * 6) := ⟨_, rfl⟩
    have HMC : Hid (mc = (rwsV (padL l 0)).toArray) := by show _ = _; rw [hmc, made_rows, pad_zero]
    rw [← hmc] at m1
    clear hmc hN hS
    have HW3 := (show Hid _ from hW3.symm)
    clear hW3
    go_upto_region 4 with fail
    rw [HW3.out]
    go_region_held3 (fun w' => w'.cell? ⟨w2.heap.size, 0, none⟩ = some (.slice (H 6).ao l.length (H 6).cap) ∧ w'.cell? ⟨w2.heap.size, 1, none⟩ = some (.slice a7 n7 c7)) (go_keep) (first | (go_at_call 36; refine (HCA.out _ (by first | exact (Kept.refl [] W3).drew | exact ((Kept.refl [] W3).alloc _).drew | exact (Kept.refl [] W3).drew.alloc _)).mono ?_; rintro e wc ⟨rfl, hwc⟩; rw [hwc]))
    · obtain ⟨W4, hW4⟩ : ∃ W4, W4 = ((W3.alloc (.cells mc 71)).alloc (.cells #[.slice (H 6).ao l.length (H 6).cap, .slice a7 n7 c7, .slice (some ⟨w2.heap.size + 2, 0, none⟩) l.length l.length] 65)).drew := ⟨_, rfl⟩
      have k4 : Kept [] W3 W4 := by rw [hW4]; exact (((Kept.refl [] _).alloc _).alloc _).drew
      have B4 : W4.heap[w2.heap.size + 2 + 1]? = some (.cells #[.slice (H 6).ao l.length (H 6).cap, .slice a7 n7 c7, .slice (some ⟨w2.heap.size + 2, 0, none⟩) l.length l.length] 65 (0, 0)) := by
        rw [hW4]
        have e1 : (W3.alloc (.cells mc 71)).heap.size = w2.heap.size + 2 + 1 := by simp [hs3]
        have e := heap_alloc_new (W3.alloc (.cells mc 71)) (.cells #[.slice (H 6).ao l.length (H 6).cap, .slice a7 n7 c7, .slice (some ⟨w2.heap.size + 2, 0, none⟩) l.length l.length] 65)
        rw [e1] at e; exact (Kept.refl [] _).drew.get e (by simp)
      have G4 : W4.heap[w2.heap.size + 2]? = some (.cells (rwsV (padL l 0)).toArray 71 (0, 0)) := by
        rw [hW4, ← HMC.out]
        have e := ((Kept.refl [] (W3.alloc (.cells mc 71))).alloc (.cells #[.slice (H 6).ao l.length (H 6).cap, .slice a7 n7 c7, .slice (some ⟨w2.heap.size + 2, 0, none⟩) l.length l.length] 65)).drew.get (heap_alloc_new _ _) (by simp)
        rw [hs3] at e; exact e
      rw [← hW4]
      clear hW4
      have RP : RepAt W4 (w2.heap.size + 2 + 1) 0 l H (w2.heap.size + 2) (padL l 0) := ⟨⟨⟨_, _, B4, rfl⟩, hS3.still k4⟩, ⟨_, _, B4, by rw [padL_len l 0 (Nat.zero_le _)]; rfl⟩, G4⟩
      have HJ := (show Hid _ from judgeAll_any (w2.heap.size + 2 + 1) 0 (w2.heap.size + 2) l H W4 RP HG.out.ok HG.out.prf (by omega) (fun x hx => by have := HN.out x hx; omega))
      have kA := (hk2.trans k3).trans k4
      have A4 := kA.get hA (by simp)
      have F4 := kA.get hF (by simp)
      clear RP hwc
      go_wp2_with fail
      refine Calls.mono HJ.out ?_
      rintro e w5 ⟨rfl, R5, k5⟩
      have B5 := k5.get B4 (by simp)
      have A5 := k5.get A4 (by simp; omega)
      have F5 := k5.get F4 (by simp; omega)
      have b0 : w5.cell? ⟨w2.heap.size + 2 + 1, 0, none⟩ = some (.slice (H 6).ao l.length (H 6).cap) := by rw [cell_of B5]; rfl
      have b1 : w5.cell? ⟨w2.heap.size + 2 + 1, 1, none⟩ = some (.slice a7 n7 c7) := by rw [cell_of B5]; rfl
      have b2 : w5.cell? ⟨w2.heap.size + 2 + 1, 2, none⟩ = some (.slice (some ⟨w2.heap.size + 2, 0, none⟩) l.length l.length) := by rw [cell_of B5]; rfl
      have a0 : w5.cell? ⟨w.heap.size, 0, none⟩ = some (.slice none 0 0) := by rw [cell_of A5]; rfl
      have a1 : w5.cell? ⟨w.heap.size, 1, none⟩ = some (.slice none 0 0) := by rw [cell_of A5]; rfl
      have a2 : w5.cell? ⟨w.heap.size, 2, none⟩ = some (.slice none 0 0) := by rw [cell_of A5]; rfl
      obtain ⟨z0, z1, z2, z3⟩ := zero_cells F5
      have ya := free_of A5
      have yf := free_of F5
      have hA2w := lt_of_get A5
      have hF2w := lt_of_get F5
      have KW : Kept [] w w5 := by
        have q := (hK.trans kA)
        exact ⟨k5.os.trans q.os, k5.tape.trans q.tape, k5.output.trans q.output, Nat.le_trans q.size k5.size, fun k hk _ => (k5.block k (Nat.lt_of_lt_of_le hk q.size) (by simp; omega)).trans (q.block k hk (by simp))⟩
      have KS := sevenA_keptS w5 w.heap.size (w.heap.size + 1)
      have HS5 : Hid (StsIs w5 l H) := R5.recd.sts
      have HG5 := (show Hid _ from R5.arr)
      have HKS := (show Hid _ from KS)
      clear R5 KS B5 A5 F5 B4 A4 F4 G4
      go_wp2
      exact bodyPost_ret (v := .tuple #[.agg #[.slice (H 6).ao l.length (H 6).cap, .slice a7 n7 c7, .slice (some ⟨w2.heap.size + 2, 0, none⟩) l.length l.length], .agg #[.int .i64 0, .string ⟨#[]⟩, .int .i64 0, .int .i64 0]]) (by simp [results, Tryz.results29, go_sem, a0, a1, a2, z0, z1, z2, z3]) rfl
        ⟨⟨H, w2.heap.size + 2, ⟨a7, n7, c7, rfl⟩, HS5.out.kept (HKS.out _ _ _ _ _ _ _) (fun k hk => by have := HN.out k hk; simp; omega), (HKS.out _ _ _ _ _ _ _).get HG5.out (by simp; omega), fun k hk => by have := HN.out k hk; omega, by omega⟩, sevenA_kept KW (Nat.le_refl _) (Nat.le_succ _) _ _ _ _ _ _ _⟩
    · obtain ⟨W4, hW4⟩ : ∃ W4, W4 = ((W3.alloc (.cells #[.slice (H 6).ao l.length (H 6).cap, .slice a7 n7 c7, .slice (some ⟨w2.heap.size + 2 + 1, 0, none⟩) l.length l.length] 65)).alloc (.cells mc 71)).drew := ⟨_, rfl⟩
      have k4 : Kept [] W3 W4 := by rw [hW4]; exact (((Kept.refl [] _).alloc _).alloc _).drew
      have B4 : W4.heap[w2.heap.size + 2]? = some (.cells #[.slice (H 6).ao l.length (H 6).cap, .slice a7 n7 c7, .slice (some ⟨w2.heap.size + 2 + 1, 0, none⟩) l.length l.length] 65 (0, 0)) := by
        rw [hW4]
        have e := ((Kept.refl [] (W3.alloc (.cells #[.slice (H 6).ao l.length (H 6).cap, .slice a7 n7 c7, .slice (some ⟨w2.heap.size + 2 + 1, 0, none⟩) l.length l.length] 65))).alloc (.cells mc 71)).drew.get (heap_alloc_new _ _) (by simp)
        rw [hs3] at e; exact e
      have G4 : W4.heap[w2.heap.size + 2 + 1]? = some (.cells (rwsV (padL l 0)).toArray 71 (0, 0)) := by
        rw [hW4, ← HMC.out]
        have e1 : (W3.alloc (.cells #[.slice (H 6).ao l.length (H 6).cap, .slice a7 n7 c7, .slice (some ⟨w2.heap.size + 2 + 1, 0, none⟩) l.length l.length] 65)).heap.size = w2.heap.size + 2 + 1 := by simp [hs3]
        have e := heap_alloc_new (W3.alloc (.cells #[.slice (H 6).ao l.length (H 6).cap, .slice a7 n7 c7, .slice (some ⟨w2.heap.size + 2 + 1, 0, none⟩) l.length l.length] 65)) (.cells mc 71)
        rw [e1] at e; exact (Kept.refl [] _).drew.get e (by simp)
      rw [← hW4]
      clear hW4
      have RP : RepAt W4 (w2.heap.size + 2) 0 l H (w2.heap.size + 2 + 1) (padL l 0) := ⟨⟨⟨_, _, B4, rfl⟩, hS3.still k4⟩, ⟨_, _, B4, by rw [padL_len l 0 (Nat.zero_le _)]; rfl⟩, G4⟩
      have HJ := (show Hid _ from judgeAll_any (w2.heap.size + 2) 0 (w2.heap.size + 2 + 1) l H W4 RP HG.out.ok HG.out.prf (by omega) (fun x hx => by have := HN.out x hx; omega))
      have kA := (hk2.trans k3).trans k4
      have A4 := kA.get hA (by simp)
      have F4 := kA.get hF (by simp)
      clear RP hwc
      go_wp2_with fail
      refine Calls.mono HJ.out ?_
      rintro e w5 ⟨rfl, R5, k5⟩
      have B5 := k5.get B4 (by simp)
      have A5 := k5.get A4 (by simp; omega)
      have F5 := k5.get F4 (by simp; omega)
      have b0 : w5.cell? ⟨w2.heap.size + 2, 0, none⟩ = some (.slice (H 6).ao l.length (H 6).cap) := by rw [cell_of B5]; rfl
      have b1 : w5.cell? ⟨w2.heap.size + 2, 1, none⟩ = some (.slice a7 n7 c7) := by rw [cell_of B5]; rfl
      have b2 : w5.cell? ⟨w2.heap.size + 2, 2, none⟩ = some (.slice (some ⟨w2.heap.size + 2 + 1, 0, none⟩) l.length l.length) := by rw [cell_of B5]; rfl
      have a0 : w5.cell? ⟨w.heap.size, 0, none⟩ = some (.slice none 0 0) := by rw [cell_of A5]; rfl
      have a1 : w5.cell? ⟨w.heap.size, 1, none⟩ = some (.slice none 0 0) := by rw [cell_of A5]; rfl
      have a2 : w5.cell? ⟨w.heap.size, 2, none⟩ = some (.slice none 0 0) := by rw [cell_of A5]; rfl
      obtain ⟨z0, z1, z2, z3⟩ := zero_cells F5
      have ya := free_of A5
      have yf := free_of F5
      have hA2w := lt_of_get A5
      have hF2w := lt_of_get F5
      have KW : Kept [] w w5 := by
        have q := (hK.trans kA)
        exact ⟨k5.os.trans q.os, k5.tape.trans q.tape, k5.output.trans q.output, Nat.le_trans q.size k5.size, fun k hk _ => (k5.block k (Nat.lt_of_lt_of_le hk q.size) (by simp; omega)).trans (q.block k hk (by simp))⟩
      have KS := sevenA_keptS w5 w.heap.size (w.heap.size + 1)
      have HS5 : Hid (StsIs w5 l H) := R5.recd.sts
      have HG5 := (show Hid _ from R5.arr)
      have HKS := (show Hid _ from KS)
      clear R5 KS B5 A5 F5 B4 A4 F4 G4
      go_wp2
      exact bodyPost_ret (v := .tuple #[.agg #[.slice (H 6).ao l.length (H 6).cap, .slice a7 n7 c7, .slice (some ⟨w2.heap.size + 2 + 1, 0, none⟩) l.length l.length], .agg #[.int .i64 0, .string ⟨#[]⟩, .int .i64 0, .int .i64 0]]) (by simp [results, Tryz.results29, go_sem, a0, a1, a2, z0, z1, z2, z3]) rfl
        ⟨⟨H, w2.heap.size + 2 + 1, ⟨a7, n7, c7, rfl⟩, HS5.out.kept (HKS.out _ _ _ _ _ _ _) (fun k hk => by have := HN.out k hk; simp; omega), (HKS.out _ _ _ _ _ _ _).get HG5.out (by simp; omega), fun k hk => by have := HN.out k hk; omega, by omega⟩, sevenA_kept KW (Nat.le_refl _) (Nat.le_succ _) _ _ _ _ _ _ _⟩
    · obtain ⟨W4, hW4⟩ : ∃ W4, W4 = ((W3.alloc (.cells #[.slice (H 6).ao l.length (H 6).cap, .slice a7 n7 c7, .slice (some ⟨w2.heap.size + 2 + 1, 0, none⟩) l.length l.length] 65)).alloc (.cells mc 71)).drew := ⟨_, rfl⟩
      have k4 : Kept [] W3 W4 := by rw [hW4]; exact (((Kept.refl [] _).alloc _).alloc _).drew
      have B4 : W4.heap[w2.heap.size + 2]? = some (.cells #[.slice (H 6).ao l.length (H 6).cap, .slice a7 n7 c7, .slice (some ⟨w2.heap.size + 2 + 1, 0, none⟩) l.length l.length] 65 (0, 0)) := by
        rw [hW4]
        have e := ((Kept.refl [] (W3.alloc (.cells #[.slice (H 6).ao l.length (H 6).cap, .slice a7 n7 c7, .slice (some ⟨w2.heap.size + 2 + 1, 0, none⟩) l.length l.length] 65))).alloc (.cells mc 71)).drew.get (heap_alloc_new _ _) (by simp)
        rw [hs3] at e; exact e
      have G4 : W4.heap[w2.heap.size + 2 + 1]? = some (.cells (rwsV (padL l 0)).toArray 71 (0, 0)) := by
        rw [hW4, ← HMC.out]
        have e1 : (W3.alloc (.cells #[.slice (H 6).ao l.length (H 6).cap, .slice a7 n7 c7, .slice (some ⟨w2.heap.size + 2 + 1, 0, none⟩) l.length l.length] 65)).heap.size = w2.heap.size + 2 + 1 := by simp [hs3]
        have e := heap_alloc_new (W3.alloc (.cells #[.slice (H 6).ao l.length (H 6).cap, .slice a7 n7 c7, .slice (some ⟨w2.heap.size + 2 + 1, 0, none⟩) l.length l.length] 65)) (.cells mc 71)
        rw [e1] at e; exact (Kept.refl [] _).drew.get e (by simp)
      rw [← hW4]
      clear hW4
      have RP : RepAt W4 (w2.heap.size + 2) 0 l H (w2.heap.size + 2 + 1) (padL l 0) := ⟨⟨⟨_, _, B4, rfl⟩, hS3.still k4⟩, ⟨_, _, B4, by rw [padL_len l 0 (Nat.zero_le _)]; rfl⟩, G4⟩
      have HJ := (show Hid _ from judgeAll_any (w2.heap.size + 2) 0 (w2.heap.size + 2 + 1) l H W4 RP HG.out.ok HG.out.prf (by omega) (fun x hx => by have := HN.out x hx; omega))
      have kA := (hk2.trans k3).trans k4
      have A4 := kA.get hA (by simp)
      have F4 := kA.get hF (by simp)
      clear RP hwc
      go_wp2_with fail
      refine Calls.mono HJ.out ?_
      rintro e w5 ⟨rfl, R5, k5⟩
      have B5 := k5.get B4 (by simp)
      have A5 := k5.get A4 (by simp; omega)
      have F5 := k5.get F4 (by simp; omega)
      have b0 : w5.cell? ⟨w2.heap.size + 2, 0, none⟩ = some (.slice (H 6).ao l.length (H 6).cap) := by rw [cell_of B5]; rfl
      have b1 : w5.cell? ⟨w2.heap.size + 2, 1, none⟩ = some (.slice a7 n7 c7) := by rw [cell_of B5]; rfl
      have b2 : w5.cell? ⟨w2.heap.size + 2, 2, none⟩ = some (.slice (some ⟨w2.heap.size + 2 + 1, 0, none⟩) l.length l.length) := by rw [cell_of B5]; rfl
      have a0 : w5.cell? ⟨w.heap.size, 0, none⟩ = some (.slice none 0 0) := by rw [cell_of A5]; rfl
      have a1 : w5.cell? ⟨w.heap.size, 1, none⟩ = some (.slice none 0 0) := by rw [cell_of A5]; rfl
      have a2 : w5.cell? ⟨w.heap.size, 2, none⟩ = some (.slice none 0 0) := by rw [cell_of A5]; rfl
      obtain ⟨z0, z1, z2, z3⟩ := zero_cells F5
      have ya := free_of A5
      have yf := free_of F5
      have hA2w := lt_of_get A5
      have hF2w := lt_of_get F5
      have KW : Kept [] w w5 := by
        have q := (hK.trans kA)
        exact ⟨k5.os.trans q.os, k5.tape.trans q.tape, k5.output.trans q.output, Nat.le_trans q.size k5.size, fun k hk _ => (k5.block k (Nat.lt_of_lt_of_le hk q.size) (by simp; omega)).trans (q.block k hk (by simp))⟩
      have KS := sevenA_keptS w5 w.heap.size (w.heap.size + 1)
      have HS5 : Hid (StsIs w5 l H) := R5.recd.sts
      have HG5 := (show Hid _ from R5.arr)
      have HKS := (show Hid _ from KS)
      clear R5 KS B5 A5 F5 B4 A4 F4 G4
      go_wp2
      exact bodyPost_ret (v := .tuple #[.agg #[.slice (H 6).ao l.length (H 6).cap, .slice a7 n7 c7, .slice (some ⟨w2.heap.size + 2 + 1, 0, none⟩) l.length l.length], .agg #[.int .i64 0, .string ⟨#[]⟩, .int .i64 0, .int .i64 0]]) (by simp [results, Tryz.results29, go_sem, a0, a1, a2, z0, z1, z2, z3]) rfl
        ⟨⟨H, w2.heap.size + 2 + 1, ⟨a7, n7, c7, rfl⟩, HS5.out.kept (HKS.out _ _ _ _ _ _ _) (fun k hk => by have := HN.out k hk; simp; omega), (HKS.out _ _ _ _ _ _ _).get HG5.out (by simp; omega), fun k hk => by have := HN.out k hk; omega, by omega⟩, sevenA_kept KW (Nat.le_refl _) (Nat.le_succ _) _ _ _ _ _ _ _⟩

end Go.Proofs.YtkancbaldeeijaaGreat
