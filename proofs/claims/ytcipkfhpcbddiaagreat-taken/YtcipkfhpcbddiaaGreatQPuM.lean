import Derived.Test.YtcipkfhpcbddiaaGreatG15
/- Places changed: what is read, and the rows, change with them and in nothing else. No walk. -/
namespace Go.Proofs.YtcipkfhpcbddiaaGreat
open Go.RowKit

/-- A change of places that leaves columns. -/
structure Pmap (π : Pl → Pl) : Prop where
  none : π noPl = noPl
  col : ∀ p c, π { p with col := c } = { π p with col := c }
  same : ∀ p, (π p).col = p.col
theorem Pmap.add {π : Pl → Pl} (h : Pmap π) (p : Pl) (j : Int) : π { p with col := p.col + j } = { π p with col := (π p).col + j } := by
  rw [h.col, h.same]
def mapWd (π : Pl → Pl) (x : ByteArray × Pl) : ByteArray × Pl := (x.1, π x.2)
def mapSt (π : Pl → Pl) (s : St) : St := { s with proof := s.proof.map (mapWd π), fin := π s.fin }
def mapSts (π : Nat → Pl → Pl) (l : List St) : List St := l.mapIdx (fun i s => mapSt (π i) s)
def mapDb (π : Nat → Pl → Pl) (d : Db) : Db := { d with sts := mapSts π d.sts, proof := d.proof.map (mapWd (π d.sts.length)) }
theorem mapSts_len (π : Nat → Pl → Pl) (l : List St) : (mapSts π l).length = l.length := by simp [mapSts]
theorem mapSts_get (π : Nat → Pl → Pl) (l : List St) (i : Nat) : (mapSts π l)[i]? = (l[i]?).map (mapSt (π i)) := by
  unfold mapSts; rw [List.getElem?_mapIdx]
theorem mapSts_end (π : Nat → Pl → Pl) (l : List St) (b : Nat) : mapSts π (endSts l b) = endSts (mapSts π l) b := by
  apply List.ext_getElem?
  intro i
  rw [mapSts_get]
  unfold endSts endTo
  rw [List.getElem?_mapIdx, List.getElem?_mapIdx, mapSts_get, mapSts_len]
  cases l[i]? with
  | none => rfl
  | some s =>
    simp only [Option.map_some]
    congr 1
    split
    · unfold endSt mapSt
      split <;> rfl
    · rfl
theorem endSts_length (l : List St) (b : Nat) : (endSts l b).length = l.length := endTo_len l b l.length
theorem mapSts_snoc (π : Nat → Pl → Pl) (l : List St) (s : St) : mapSts π (l ++ [s]) = mapSts π l ++ [mapSt (π l.length) s] := by
  unfold mapSts
  rw [List.mapIdx_append]; simp

/-- Nothing of a proof is left when no statement is open. -/
def NoLeft (d : Db) : Prop := d.kind = 0 → d.proof = []
theorem noLeft_take {d : Db} (h : NoLeft d) (x : ByteArray) (p : Pl) : NoLeft (takeF d x p).2 := by
  have key : ∀ d' : Db, d'.proof = d.proof → (d'.kind = 0 → d.kind = 0) → NoLeft d' := fun d' e1 e2 hk => by rw [e1]; exact h (e2 hk)
  unfold takeF
  split
  · next hk =>
    have hk0 : d.kind = 0 := by simpa using hk
    unfold takeFirstF
    split
    · exact key _ rfl (fun _ => hk0)
    · split
      · split
        · exact h
        · unfold endBothF; split <;> exact key _ rfl (fun _ => hk0)
      · split
        · split
          · exact h
          · exact key _ rfl (fun _ => hk0)
        · split
          · exact key _ rfl (fun _ => hk0)
          · split
            · exact key _ rfl (fun _ => hk0)
            · split
              · exact h
              · unfold takeLabelF
                repeat' split
                all_goals first | exact h | exact key _ rfl (fun _ => hk0)
  · next hk0 =>
    split
    · unfold takeKeywordF
      repeat' split
      all_goals first | exact h | exact fun hk => by simp at hk
    · split
      · unfold endF
        split
        · exact h
        · split
          · exact h
          · exact fun _ => rfl
      · split
        · unfold beginProofF
          split
          · exact h
          · exact key _ rfl (fun hk => hk)
        · split
          · exact h
          · split
            · intro hk
              have hk' : d.kind = 0 := hk
              rw [hk'] at hk0; simp at hk0
            · split
              · exact key _ rfl (fun hk => hk)
              · exact h

theorem mapDb_closed (π : Nat → Pl → Pl) (d : Db) (h : d.proof = []) : mapDb π d = { d with sts := mapSts π d.sts } := by
  unfold mapDb; rw [h]; simp

/-- Taking a word changes places, and nothing else. -/
theorem take_map (π : Nat → Pl → Pl) (d : Db) (hl : NoLeft d) (x : ByteArray) (p : Pl) : takeF (mapDb π d) x (π d.sts.length p) = ((takeF d x p).1, mapDb π (takeF d x p).2) := by
  cases hk0 : (d.kind == 0) with
  | true =>
    have hp : d.proof = [] := hl (by simpa using hk0)
    have e0 : takeF (mapDb π d) x (π d.sts.length p) = takeFirstF (mapDb π d) x := by unfold takeF; exact if_pos hk0
    have e1 : takeF d x p = takeFirstF d x := by unfold takeF; exact if_pos hk0
    rw [e0, e1]
    unfold takeFirstF
    split
    · simp [mapDb, hp, mapSts_len]
    · split
      · show (match d.blocks.getLast? with | none => ((9 : Int), mapDb π d) | some p => (0, endBothF (mapDb π d) p)) = _
        cases hb : d.blocks.getLast? with
        | none => rfl
        | some q =>
          simp only
          congr 1
          unfold endBothF
          show (match d.rbl.getLast? with | none => _ | some x => _) = _
          cases hr : d.rbl.getLast? with
          | none => simp [mapDb, endBlockF, hp]
          | some y => simp [mapDb, endBlockF, hp, mapSts_end]
      · split
        · show (if 0 < d.blocks.length then _ else _) = _
          split <;> simp [mapDb, hp]
        · split
          · simp [mapDb, hp]
          · split
            · simp [mapDb, hp]
            · split
              · rfl
              · unfold takeLabelF
                have et : isTakenF (mapDb π d) x = isTakenF d x := rfl
                rw [et]
                repeat' split
                all_goals simp [mapDb, hp]
  | false =>
    cases hk6 : (d.kind == 6) with
    | true =>
      have e0 : takeF (mapDb π d) x (π d.sts.length p) = takeKeywordF (mapDb π d) x := by unfold takeF; rw [if_neg (show ¬ ((mapDb π d).kind == 0) = true by show ¬ (d.kind == 0) = true; rw [hk0]; simp)]; exact if_pos hk6
      have e1 : takeF d x p = takeKeywordF d x := by unfold takeF; rw [if_neg (by rw [hk0]; simp)]; exact if_pos hk6
      rw [e0, e1]
      unfold takeKeywordF
      repeat' split
      all_goals rfl
    | false =>
      have e0 : ∀ q, takeF (mapDb π d) x q = if (x.toList == [36, 46]) = true then endF (mapDb π d) q else if (x.toList == [36, 61]) = true ∧ (d.kind == 5) = true ∧ d.inProof = false then beginProofF (mapDb π d) else if dollarF x = true then (8, mapDb π d) else if d.inProof = true then (0, { mapDb π d with proof := (mapDb π d).proof ++ [(x, q)] }) else if (checkSymbolF d x == 0) = true then (0, { mapDb π d with symbols := d.symbols ++ [x] }) else (checkSymbolF d x, mapDb π d) := by
        intro q
        unfold takeF
        rw [if_neg (show ¬ ((mapDb π d).kind == 0) = true by show ¬ (d.kind == 0) = true; rw [hk0]; simp), if_neg (show ¬ ((mapDb π d).kind == 6) = true by show ¬ (d.kind == 6) = true; rw [hk6]; simp)]
        rfl
      have e1 : takeF d x p = if (x.toList == [36, 46]) = true then endF d p else if (x.toList == [36, 61]) = true ∧ (d.kind == 5) = true ∧ d.inProof = false then beginProofF d else if dollarF x = true then (8, d) else if d.inProof = true then (0, { d with proof := d.proof ++ [(x, p)] }) else if (checkSymbolF d x == 0) = true then (0, { d with symbols := d.symbols ++ [x] }) else (checkSymbolF d x, d) := by
        unfold takeF
        rw [if_neg (by rw [hk0]; simp), if_neg (by rw [hk6]; simp)]
      rw [e0, e1]
      split
      · unfold endF
        show (if (d.symbols.length : Int) < leastF d then _ else if (d.kind == 5) = true ∧ d.inProof = false then _ else _) = _
        split
        · rfl
        · split
          · rfl
          · unfold declareF
            have q7 : ((mapDb π d).kind == 7) = (d.kind == 7) := rfl
            have q8 : ((mapDb π d).kind == 8) = (d.kind == 8) := rfl
            rw [q7, q8]
            cases h7 : (d.kind == 7) with
            | true => simp [mapDb]
            | false =>
              cases h8 : (d.kind == 8) with
              | true => simp [mapDb, varsAt]
              | false =>
                simp only [Bool.false_eq_true, if_false]
                unfold addSt typeIt
                by_cases ht : (d.kind == 2) = true ∧ 1 < d.symbols.length
                · rw [if_pos ht, if_pos (show ((mapDb π d).kind == 2) = true ∧ 1 < (mapDb π d).symbols.length from ht)]
                  simp [mapDb, mapSts_snoc, mapSt]
                · rw [if_neg ht, if_neg (show ¬ (((mapDb π d).kind == 2) = true ∧ 1 < (mapDb π d).symbols.length) from ht)]
                  simp [mapDb, mapSts_snoc, mapSt]
      · split
        · unfold beginProofF
          show (if d.symbols.length = 0 then _ else _) = _
          split <;> rfl
        · split
          · rfl
          · split
            · simp [mapDb, mapWd]
            · split
              · rfl
              · rfl

end Go.Proofs.YtcipkfhpcbddiaaGreat
