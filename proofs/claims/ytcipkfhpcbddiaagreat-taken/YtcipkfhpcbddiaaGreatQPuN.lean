import Derived.Test.YtcipkfhpcbddiaaGreatQPuM
/- Places changed: the rows. No walk. -/
namespace Go.Proofs.YtcipkfhpcbddiaaGreat
open Go.RowKit

def mapStp (π : Pl → Pl) (s : Stp) : Stp := { s with at_ := π s.at_ }
def mapRw (π : Pl → Pl) (r : Rw) : Rw := { r with at_ := π r.at_ }
def mapFlt (π : Pl → Pl) (f : Flt) : Flt := (f.1, π f.2)
theorem mapFlt_no {π : Pl → Pl} (h : Pmap π) : mapFlt π noFlt = noFlt := by
  unfold mapFlt noFlt
  have := h.none
  unfold noPl at this
  simp only [this]

theorem held_map (π : Nat → Pl → Pl) (l : List St) (n a : Nat) : heldF (mapSts π l) n a = heldF l n a := by
  unfold heldF; rw [mapSts_get]
  cases l[n]? <;> rfl
theorem names_map (π : Nat → Pl → Pl) (l : List St) (t : ByteArray) (a n : Nat) : namesF (mapSts π l) t a n = namesF l t a n := by
  unfold namesF; rw [mapSts_get, held_map]
  cases l[n]? <;> rfl
theorem findH_map (π : Nat → Pl → Pl) (l : List St) (t : ByteArray) (a : Nat) : findHF (mapSts π l) t a = findHF l t a := by
  unfold findHF; rw [mapSts_len]
  congr 1
  funext n
  exact names_map π l t a n
theorem symsAt_map (π : Nat → Pl → Pl) (l : List St) (n : Nat) : symsAt (mapSts π l) n = symsAt l n := by
  unfold symsAt; rw [mapSts_get]
  cases l[n]? <;> rfl
theorem symsOf_map (π : Nat → Pl → Pl) (l : List St) (a : Nat) : symsOfF (mapSts π l) a = symsOfF l a := by
  unfold symsOfF symsTo
  have e1 : essF (mapSts π l) a = essF l a := by
    funext n
    unfold essF; rw [mapSts_get, held_map]
    cases l[n]? <;> rfl
  have e2 : symsAt (mapSts π l) = symsAt l := funext (symsAt_map π l)
  rw [e1, e2, mapSts_len]
theorem hyps_map (π : Nat → Pl → Pl) (l : List St) (a : Nat) : hypsF (mapSts π l) a = hypsF l a := by
  unfold hypsF hypsTo
  have e1 : mandAt (mapSts π l) (symsOfF (mapSts π l) a) a = mandAt l (symsOfF l a) a := by
    funext n
    unfold mandAt; rw [mapSts_get, held_map, symsOf_map]
    cases l[n]? <;> rfl
  rw [e1, mapSts_len]
theorem marks_map (π : Nat → Pl → Pl) (l : List St) (a : Nat) (vs : List ByteArray) : marksF (mapSts π l) a vs = marksF l a vs := by
  unfold marksF
  rw [mapSts_len]
  generalize l.length = k
  induction k with
  | zero => rfl
  | succ k ih =>
    have e : disjF (mapSts π l) a k = disjF l a k := by
      unfold disjF; rw [mapSts_get, held_map]
      cases l[k]? <;> rfl
    rw [marksTo, marksTo, e, ih, symsAt_map]
theorem av_map (π : Nat → Pl → Pl) (l : List St) (a : Nat) : avF (mapSts π l) a = avF l a := by
  unfold avF avTo
  have e1 : avOne (mapSts π l) a = avOne l a := by
    funext n
    unfold avOne; rw [mapSts_get, held_map]
    cases l[n]? <;> rfl
  rw [e1, mapSts_len]

theorem block_map (π : Nat → Pl → Pl) (ρ : Pl → Pl) (hρ : Pmap ρ) (l : List St) (a : Nat) (fin : Pl) (ws : List (ByteArray × Pl)) : ∀ i ns,
    blockL (mapSts π l) a (ρ fin) i (ws.map (mapWd ρ)) ns = (((blockL l a fin i ws ns).1.1, mapFlt ρ (blockL l a fin i ws ns).1.2), (blockL l a fin i ws ns).2) := by
  induction ws with
  | nil => intro i ns; rfl
  | cons x r ih =>
    intro i ns
    obtain ⟨t, p⟩ := x
    rw [List.map_cons]
    show blockL (mapSts π l) a (ρ fin) i ((t, ρ p) :: r.map (mapWd ρ)) ns = _
    rw [blockL, blockL, findH_map]
    split
    · simp only [mapFlt_no hρ]
    · cases findHF l t a with
      | none => rfl
      | some n =>
        simp only
        split
        · rfl
        · exact ih _ _
theorem norm_map (π : Nat → Pl → Pl) (ρ : Pl → Pl) (hρ : Pmap ρ) (l : List St) (a : Nat) (fin : Pl) (ws : List (ByteArray × Pl)) : ∀ acc,
    normF (mapSts π l) a (ρ fin) (ws.map (mapWd ρ)) (acc.map (mapStp ρ)) = ((normF l a fin ws acc).1.map (mapStp ρ), mapFlt ρ (normF l a fin ws acc).2) := by
  induction ws with
  | nil =>
    intro acc
    rw [List.map_nil, normF, normF, List.length_map]
    split
    · rfl
    · rw [mapFlt_no hρ]
  | cons x r ih =>
    intro acc
    obtain ⟨t, p⟩ := x
    rw [List.map_cons]
    show normF (mapSts π l) a (ρ fin) ((t, ρ p) :: r.map (mapWd ρ)) (acc.map (mapStp ρ)) = _
    rw [normF, normF, findH_map]
    split
    · have := ih (acc ++ [⟨1, 0, p⟩])
      rw [List.map_append] at this
      exact this
    · cases findHF l t a with
      | none => rfl
      | some n =>
        simp only
        have := ih (acc ++ [⟨2, n, p⟩])
        rw [List.map_append] at this
        exact this
def mapCmp (ρ : Pl → Pl) (c : Cmp) : Cmp := { c with steps := c.steps.map (mapStp ρ) }
theorem let_map (ρ : Pl → Pl) (c : Cmp) (n : Nat) (p : Pl) : takeLetF (mapCmp ρ c) n (ρ p) = ((takeLetF c n p).1, mapCmp ρ (takeLetF c n p).2) := by
  unfold takeLetF
  split
  · unfold endNumF
    show (if c.digits * 20 + (n - 64) - 1 < c.names.length then _ else if c.digits * 20 + (n - 64) - 1 - c.names.length < c.tagged.length then _ else _) = _
    split
    · simp [mapCmp, addStepF, mapStp]
    · split
      · simp [mapCmp, addStepF, mapStp]
      · rfl
  · split
    · unfold takeDigF
      show (_, if c.digits ≤ c.names.length + c.tagged.length then _ else _) = _
      split <;> rfl
    · show (if n = 90 ∧ c.behind = true then _ else if n = 63 ∧ c.digits = 0 then _ else _) = _
      split
      · simp [mapCmp]
      · split
        · simp [mapCmp, addStepF, mapStp]
        · rfl
theorem word_map (ρ : Pl → Pl) (hρ : Pmap ρ) (t : ByteArray) (p : Pl) (f : Nat) : ∀ j c, wordLet t (ρ p) f j (mapCmp ρ c) = (mapFlt ρ (wordLet t p f j c).1, mapCmp ρ (wordLet t p f j c).2) := by
  induction f with
  | zero => intro j c; rw [wordLet, wordLet, mapFlt_no hρ]
  | succ f ih =>
    intro j c
    have e : ({ ρ p with col := (ρ p).col + (j : Int) } : Pl) = ρ { p with col := p.col + (j : Int) } := (hρ.add p j).symm
    rw [wordLet, wordLet, e, let_map]
    simp only
    split
    · split
      · exact ih _ _
      · rfl
    · rw [mapFlt_no hρ]
theorem words_map (ρ : Pl → Pl) (hρ : Pmap ρ) (ws : List (ByteArray × Pl)) : ∀ c, wordsLF (ws.map (mapWd ρ)) (mapCmp ρ c) = (mapFlt ρ (wordsLF ws c).1, mapCmp ρ (wordsLF ws c).2) := by
  induction ws with
  | nil => intro c; rw [List.map_nil, wordsLF, wordsLF, mapFlt_no hρ]
  | cons x r ih =>
    intro c
    obtain ⟨t, p⟩ := x
    rw [List.map_cons]
    show wordsLF ((t, ρ p) :: r.map (mapWd ρ)) (mapCmp ρ c) = _
    have e : wordLF t (ρ p) (mapCmp ρ c) = (mapFlt ρ (wordLF t p c).1, mapCmp ρ (wordLF t p c).2) := word_map ρ hρ t p _ 0 c
    rw [wordsLF, wordsLF, e]
    simp only
    show (if ((wordLF t p c).1.1 == 0) = true then _ else _) = _
    split
    · exact ih _
    · rfl
theorem prf_map (π : Nat → Pl → Pl) (ρ : Pl → Pl) (hρ : Pmap ρ) (l : List St) (a : Nat) (s : St) : prfF (mapSts π l) a (mapSt ρ s) = ((prfF l a s).1.map (mapStp ρ), mapFlt ρ (prfF l a s).2) := by
  have hc : isComp (mapSt ρ s) = isComp s := by
    unfold isComp mapSt
    simp only
    cases s.proof with
    | nil => rfl
    | cons x r => rfl
  unfold prfF
  rw [hc]
  split
  · unfold compF
    have hR : compR (mapSts π l) a (mapSt ρ s) = (mapFlt ρ (compR l a s).1, mapCmp ρ (compR l a s).2) := by
      have hd : ∀ k, (mapSt ρ s).proof.drop k = (s.proof.drop k).map (mapWd ρ) := fun k => by unfold mapSt; simp only [List.map_drop]
      have hf : (mapSt ρ s).fin = ρ s.fin := rfl
      unfold compR
      rw [hyps_map, hf]
      simp only [hd]
      rw [block_map π ρ hρ]
      simp only
      unfold onw
      show (if ((blockL l a s.fin 1 (s.proof.drop 1) (hypsF l a)).1.2.1 == 0) = true then _ else _) = _
      split
      · exact words_map ρ hρ _ ⟨_, [], [], 0, false⟩
      · rfl
    rw [hR]
    unfold compE
    show (if ((compR l a s).1.1 == 0) = true then (if (compR l a s).2.digits = 0 then (if ((compR l a s).2.steps.map (mapStp ρ)).length = 0 then _ else _) else _) else _) = _
    rw [List.length_map]
    split
    · split
      · split
        · rfl
        · rw [mapFlt_no hρ]; rfl
      · rfl
    · rfl
  · exact norm_map π ρ hρ l a s.fin s.proof []

theorem getD_map (π : Nat → Pl → Pl) (l : List St) (n : Nat) (h : n < l.length) : (mapSts π l).getD n stD = mapSt (π n) (l.getD n stD) := by
  rw [List.getD_eq_getElem?_getD, List.getD_eq_getElem?_getD, mapSts_get, List.getElem?_eq_getElem h]; rfl
theorem fit_map (ρ : Pl → Pl) (s : St) (e : List ByteArray) (S : Sbs) : fitF (mapSt ρ s) e S = fitF s e S := rfl
theorem fitAll_map (π : Nat → Pl → Pl) (l : List St) (hs : List Nat) (h : ∀ x ∈ hs, x < l.length) : ∀ es S, fitAll (mapSts π l) hs es S = fitAll l hs es S := by
  induction hs with
  | nil => intro es S; simp [fitAll]
  | cons x r ih =>
    intro es S
    cases es with
    | nil => simp [fitAll]
    | cons e es =>
      rw [fitAll, fitAll, getD_map π l x (h x (by simp)), fit_map]
      simp only [ih (fun y hy => h y (by simp [hy]))]
theorem apply_map (π : Nat → Pl → Pl) (l : List St) (n : Nat) (h : n < l.length) (vs : List ByteArray) (ms : List Bool) (th : List (List ByteArray)) : applyF (mapSts π l) n vs ms th = applyF l n vs ms th := by
  have ek : ∀ S, keepF (mapSts π l) n S vs ms = keepF l n S vs ms := fun S => by unfold keepF keepP; rw [marks_map]
  unfold applyF applyR
  rw [hyps_map, getD_map π l n h, fitAll_map π l _ (fun x hx => hypsF_lt hx)]
  simp only [ek]
  rfl
theorem show_map (π : Nat → Pl → Pl) (ρ : Pl → Pl) (l : List St) (vs : List ByteArray) (ms : List Bool) (sh th : List (List ByteArray)) (s : Stp) (h : (s.kind == 3) = false → s.number < l.length) : showF (mapSts π l) vs ms sh th (mapStp ρ s) = showF l vs ms sh th s := by
  unfold showF
  show (if (s.kind == 3) = true then _ else _) = _
  cases hk : (s.kind == 3) with
  | true => rfl
  | false =>
    have hn := h hk
    have e : isAt (mapSts π l) s.number = isAt l s.number := by unfold isAt; rw [mapSts_get]; cases l[s.number]? <;> rfl
    simp only [Bool.false_eq_true, if_false]
    show (if isAt (mapSts π l) s.number = true then _ else _) = _
    rw [e]
    show (if isAt l s.number = true then (applyF (mapSts π l) s.number vs ms th, th.take (th.length - (hypsF (mapSts π l) s.number).length)) else ((0, ((mapSts π l).getD s.number stD).symbols), th)) = _
    rw [apply_map π l _ hn, hyps_map, getD_map π l _ hn]
    rfl
theorem playAll_map (π : Nat → Pl → Pl) (ρ : Pl → Pl) (hρ : Pmap ρ) (l : List St) (vs : List ByteArray) (ms : List Bool) (fin : Pl) (goal : List ByteArray) (steps : List Stp) (h : ∀ s ∈ steps, (s.kind == 3) = false → s.number < l.length) :
    ∀ S, playAll (mapSts π l) vs ms (ρ fin) goal (steps.map (mapStp ρ)) S = mapFlt ρ (playAll l vs ms fin goal steps S) := by
  induction steps with
  | nil =>
    intro S
    rw [List.map_nil, playAll, playAll]
    unfold leftF
    split
    · rfl
    · split
      · rw [mapFlt_no hρ]
      · rfl
    · rfl
  | cons s r ih =>
    intro S
    have e : playF (mapSts π l) vs ms S (mapStp ρ s) = playF l vs ms S s := by unfold playF; rw [show_map π ρ l vs ms S.1 S.2 s (h s (by simp))]
    rw [List.map_cons, playAll, playAll, e]
    split
    · exact ih (fun y hy => h y (by simp [hy])) _
    · rfl
theorem unk_map (ρ : Pl → Pl) (steps : List Stp) : unkF (steps.map (mapStp ρ)) = unkF steps := by
  unfold unkF
  rw [List.length_map]
  congr 1
  funext i
  rw [List.getElem?_map]
  cases steps[i]? <;> rfl
theorem rest_map (ρ : Pl → Pl) (L : List Rw) (steps : List Stp) : restF L (steps.map (mapStp ρ)) = restF L steps := by
  unfold restF
  rw [List.all_map]
  rfl
theorem judge_map (π : Nat → Pl → Pl) (ρ : Pl → Pl) (hρ : Pmap ρ) (l : List St) (n : Nat) (ok : RecOk l) (hn : n < l.length) (okp : PrfOk l[n]) (L L' : List Rw) (hL : ∀ k, verF L' k = verF L k) : judgeF (mapSts π l) n (mapSt ρ l[n]) L' = mapRw ρ (judgeF l n l[n] L) := by
  unfold judgeF
  rw [prf_map π ρ hρ, unk_map]
  have ef : (if (unkF (prfF l n l[n]).1).isNone = true ∧ ((mapFlt ρ (prfF l n l[n]).2).1 == 0) = true then playAllF (mapSts π l) n (mapSt ρ l[n]) ((prfF l n l[n]).1.map (mapStp ρ)) else mapFlt ρ (prfF l n l[n]).2) = mapFlt ρ (if (unkF (prfF l n l[n]).1).isNone = true ∧ ((prfF l n l[n]).2.1 == 0) = true then playAllF l n l[n] (prfF l n l[n]).1 else (prfF l n l[n]).2) := by
    show (if (unkF (prfF l n l[n]).1).isNone = true ∧ ((prfF l n l[n]).2.1 == 0) = true then _ else _) = _
    split
    · unfold playAllF
      rw [av_map, marks_map]
      exact playAll_map π ρ hρ l _ _ _ _ _ (prf_ok l n ok hn okp).named _
    · rfl
  rw [ef]
  generalize (if (unkF (prfF l n l[n]).1).isNone = true ∧ ((prfF l n l[n]).2.1 == 0) = true then playAllF l n l[n] (prfF l n l[n]).1 else (prfF l n l[n]).2) = f
  unfold judgeR
  rw [unk_map, rest_map, restF_congr hL]
  show (if (f.1 == 0) = true then _ else _) = _
  split
  · cases unkF (prfF l n l[n]).1 with
    | some u =>
      simp only
      unfold mapRw
      simp only
      congr 1
      rw [List.getElem?_map]
      cases (prfF l n l[n]).1[u]? with
      | none => exact hρ.none.symm
      | some x => rfl
    | none =>
      simp only
      split
      · unfold mapRw; simp only [hρ.none]; rfl
      · unfold mapRw; simp only [hρ.none]; rfl
  · rfl

def mapRws (π : Nat → Pl → Pl) (L : List Rw) : List Rw := L.mapIdx (fun i r => mapRw (π i) r)
theorem ver_map (π : Nat → Pl → Pl) (L : List Rw) (k : Nat) : verF (mapRws π L) k = verF L k := by
  unfold verF mapRws
  rw [List.getD_eq_getElem?_getD, List.getD_eq_getElem?_getD, List.getElem?_mapIdx]
  cases L[k]? <;> rfl
theorem up_map (π : Nat → Pl → Pl) (hπ : ∀ i, Pmap (π i)) (l : List St) (ok : RecOk l) (okp : ∀ i (hi : i < l.length), PrfOk l[i]) (k : Nat) (hk : k ≤ l.length) : rowsUp (mapSts π l) k = mapRws π (rowsUp l k) := by
  induction k with
  | zero => rfl
  | succ k ih =>
    have hlt : k < l.length := by omega
    rw [rowsUp, rowsUp, ih (by omega)]
    have e : oneRow (mapSts π l) k (mapRws π (rowsUp l k)) = mapRw (π k) (oneRow l k (rowsUp l k)) := by
      unfold oneRow
      rw [mapSts_get, List.getElem?_eq_getElem hlt]
      simp only [Option.map_some]
      show (if (l[k].kind == 4) = true then _ else if (l[k].kind == 5) = true then _ else _) = _
      split
      · unfold mapRw; simp only [(hπ k).none]; rfl
      · split
        · exact judge_map π (π k) (hπ k) l k ok hlt (okp k hlt) _ _ (ver_map π _)
        · unfold mapRw zRw; simp only [(hπ k).none]
    rw [e]
    unfold mapRws
    rw [List.mapIdx_append]
    simp [rowsUp_len]

/-- Rows that are told, where a text's own are changed by one map and what follows by another. -/
theorem rows_map (π₁ π₂ : Pl → Pl) (h1 : Pmap π₁) (h2 : Pmap π₂) (S m : List St) (ok : RecOk (S ++ m)) (okp : ∀ i (hi : i < (S ++ m).length), PrfOk (S ++ m)[i]) (okS : RecOk S) (okpS : ∀ i (hi : i < S.length), PrfOk S[i]) :
    ∃ M, rowsF (S ++ m) = rowsF S ++ M ∧ rowsF (mapSts (fun i => if i < S.length then π₁ else π₂) (S ++ m)) = (rowsF S).map (mapRw π₁) ++ M.map (mapRw π₂) := by
  have hπ : ∀ i, Pmap ((fun i => if i < S.length then π₁ else π₂) i) := fun i => by simp only; split <;> assumption
  have hu : ∃ t, rowsUp (S ++ m) (S ++ m).length = rowsUp S S.length ++ t := by
    have h : ∀ k, ∃ t, rowsUp (S ++ m) (S.length + k) = rowsUp S S.length ++ t := by
      intro k
      induction k with
      | zero => exact ⟨[], by rw [Nat.add_zero, up_fore S m okS okpS _ (Nat.le_refl _)]; simp⟩
      | succ k ih =>
        obtain ⟨t, ht⟩ := ih
        exact ⟨_, by rw [← Nat.add_assoc, rowsUp]; conv => lhs; arg 1; rw [ht]
                     rw [List.append_assoc]⟩
    obtain ⟨t, ht⟩ := h m.length
    exact ⟨t, by rw [List.length_append]; exact ht⟩
  obtain ⟨t, ht⟩ := hu
  have hf : ∀ (π : Pl → Pl) (L : List Rw), (L.map (mapRw π)).filter (fun r => !(r.verdict == 0)) = (L.filter (fun r => !(r.verdict == 0))).map (mapRw π) := by
    intro π L
    rw [List.filter_map]; rfl
  refine ⟨t.filter (fun r => !(r.verdict == 0)), ?_, ?_⟩
  · unfold rowsF
    rw [ht, List.filter_append]
  · unfold rowsF
    rw [mapSts_len, up_map _ hπ (S ++ m) ok okp _ (Nat.le_refl _), ht]
    have hs : mapRws (fun i => if i < S.length then π₁ else π₂) (rowsUp S S.length ++ t) = (rowsUp S S.length).map (mapRw π₁) ++ t.map (mapRw π₂) := by
      have hl := rowsUp_len S S.length
      apply List.ext_getElem?
      intro i
      unfold mapRws
      rw [List.getElem?_mapIdx]
      rcases Nat.lt_or_ge i S.length with h | h
      · rw [List.getElem?_append_left (by omega), List.getElem?_append_left (by simp; omega), List.getElem?_map]
        simp only [if_pos h]
      · rw [List.getElem?_append_right (by omega), List.getElem?_append_right (by simp; omega), List.getElem?_map]
        simp only [if_neg (show ¬ i < S.length by omega), List.length_map]
    rw [hs, List.filter_append, hf, hf]

end Go.Proofs.YtcipkfhpcbddiaaGreat
