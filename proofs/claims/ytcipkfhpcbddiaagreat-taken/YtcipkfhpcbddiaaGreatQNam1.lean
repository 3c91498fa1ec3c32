import Derived.Test.YtcipkfhpcbddiaaGreatG06
/- The names of a database and its record: what every word keeps. No walk. -/
namespace Go.Proofs.YtcipkfhpcbddiaaGreat
open Go.RowKit

theorem has_mono {l m : List ByteArray} {x : ByteArray} (h : hasF l x = true) : hasF (l ++ m) x = true := by
  unfold hasF at h ⊢; rw [List.any_append, h]; rfl
theorem has_last (l : List ByteArray) (x : ByteArray) : hasF (l ++ [x]) x = true := by
  unfold hasF; rw [List.any_append]; simp
theorem has_congr {l : List ByteArray} {x y : ByteArray} (e : (x.toList == y.toList) = true) (h : hasF l x = true) : hasF l y = true := by
  have e' : x.toList = y.toList := by simpa using e
  unfold hasF at h ⊢; rw [← e']; exact h

/-- A statement that was recorded. -/
structure StOk (P : ByteArray → Prop) (L C : List ByteArray) (s : St) : Prop where
  kind : s.kind = 1 ∨ (2 ≤ s.kind ∧ s.kind ≤ 5)
  syms : ∀ x ∈ s.symbols, P x
  lab : (2 ≤ s.kind ∧ s.kind ≤ 5) → P s.label ∧ isLabelF s.label = true ∧ hasF L s.label = true
  code : (2 ≤ s.kind ∧ s.kind ≤ 5) → ∃ c r, s.symbols = c :: r ∧ hasF C c = true
  two : s.kind = 2 → s.symbols.length = 2
theorem StOk.mono {P : ByteArray → Prop} {L C : List ByteArray} {s : St} (h : StOk P L C s) (L' C' : List ByteArray) (hL : ∀ x, hasF L x = true → hasF L' x = true) (hC : ∀ x, hasF C x = true → hasF C' x = true) : StOk P L' C' s :=
  ⟨h.kind, h.syms, fun k => ⟨(h.lab k).1, (h.lab k).2.1, hL _ (h.lab k).2.2⟩, fun k => by obtain ⟨c, r, e1, e2⟩ := h.code k; exact ⟨c, r, e1, hC _ e2⟩, h.two⟩
theorem StOk.til {P : ByteArray → Prop} {L C : List ByteArray} {s : St} (h : StOk P L C s) (n : Nat) : StOk P L C { s with til := n } := ⟨h.kind, h.syms, h.lab, h.code, h.two⟩

/-- No two of the record have one label. -/
def Dif (l : List St) : Prop := ∀ (i j : Nat) s t, i < j → l[i]? = some s → l[j]? = some t → s.kind ≠ 1 → t.kind ≠ 1 → (s.label.toList == t.label.toList) = false

structure Nm (P : ByteArray → Prop) (d : Db) : Prop where
  lab : ∀ x ∈ d.labels, P x
  con : ∀ x ∈ d.constants, P x
  var : ∀ x ∈ d.variables, P x
  act : ∀ x ∈ d.active, P x
  typ : ∀ x ∈ d.typed, P x
  sym : ∀ x ∈ d.symbols, P x
  sts : ∀ s ∈ d.sts, StOk P d.labels d.constants s
  kind : 0 ≤ d.kind ∧ d.kind ≤ 8
  here : (2 ≤ d.kind ∧ d.kind ≤ 6) → P d.label ∧ isLabelF d.label = true ∧ hasF d.labels d.label = true ∧ ∀ s ∈ d.sts, s.kind ≠ 1 → (s.label.toList == d.label.toList) = false
  head : (2 ≤ d.kind ∧ d.kind ≤ 5) → ∀ c r, d.symbols = c :: r → hasF d.constants c = true
  two : d.kind = 2 → d.symbols.length ≤ 2
  none : (d.kind = 0 ∨ d.kind = 6) → d.symbols = []
  diff : Dif d.sts
  prf : d.kind ≠ 5 → d.inProof = false

theorem endSts_get (l : List St) (b i : Nat) : (endSts l b)[i]? = (l[i]?).map (fun s => if b ≤ i ∧ i < l.length then endSt l.length s else s) := by
  unfold endSts endTo; rw [List.getElem?_mapIdx]
theorem endSt_same (N : Nat) (s : St) : (endSt N s).kind = s.kind ∧ (endSt N s).label = s.label ∧ (endSt N s).symbols = s.symbols := by
  unfold endSt; split <;> exact ⟨rfl, rfl, rfl⟩
theorem endSts_back {l : List St} {b i : Nat} {s : St} (h : (endSts l b)[i]? = some s) : ∃ s', l[i]? = some s' ∧ s.kind = s'.kind ∧ s.label = s'.label ∧ s.symbols = s'.symbols := by
  rw [endSts_get] at h
  cases hs : l[i]? with
  | none => rw [hs] at h; cases h
  | some s' =>
    rw [hs] at h
    simp only [Option.map_some, Option.some.injEq] at h
    refine ⟨s', rfl, ?_⟩
    subst h
    split
    · exact endSt_same _ _
    · exact ⟨rfl, rfl, rfl⟩
theorem endSts_ok {P : ByteArray → Prop} {L C : List ByteArray} {l : List St} (h : ∀ s ∈ l, StOk P L C s) (b : Nat) : ∀ s ∈ endSts l b, StOk P L C s := by
  intro s hs
  obtain ⟨i, hi⟩ := List.getElem?_of_mem hs
  obtain ⟨s', h1, h2, h3, h4⟩ := endSts_back hi
  have k := h s' (List.mem_of_getElem? h1)
  refine ⟨?_, ?_, ?_, ?_, ?_⟩
  · rw [h2]; exact k.kind
  · rw [h4]; exact k.syms
  · rw [h2, h3]; exact k.lab
  · rw [h2, h4]; exact k.code
  · rw [h2, h4]; exact k.two
theorem endSts_dif {l : List St} (h : Dif l) (b : Nat) : Dif (endSts l b) := by
  intro i j s t hij hs ht k1 k2
  obtain ⟨s', a1, a2, a3, a4⟩ := endSts_back hs
  obtain ⟨t', b1, b2, b3, b4⟩ := endSts_back ht
  rw [a3, b3]
  exact h i j s' t' hij a1 b1 (by rw [← a2]; exact k1) (by rw [← b2]; exact k2)
theorem dif_snoc {l : List St} (h : Dif l) (u : St) (hu : u.kind ≠ 1 → ∀ s ∈ l, s.kind ≠ 1 → (s.label.toList == u.label.toList) = false) : Dif (l ++ [u]) := by
  intro i j s t hij hs ht k1 k2
  have hjl : j < (l ++ [u]).length := (List.getElem?_eq_some_iff.1 ht).1
  simp only [List.length_append, List.length_singleton] at hjl
  rw [List.getElem?_append_left (by omega)] at hs
  by_cases hj : j < l.length
  · rw [List.getElem?_append_left hj] at ht
    exact h i j s t hij hs ht k1 k2
  · have e : j = l.length := by omega
    subst e
    simp at ht
    subst ht
    exact hu k2 s (List.mem_of_getElem? hs) k1
theorem addVars_P {P : ByteArray → Prop} (l v : List ByteArray) (hv : ∀ x ∈ v, P x) (hl : ∀ x ∈ l, P x) : ∀ x ∈ addVarsTo v l, P x := by
  unfold addVarsTo
  induction l generalizing v with
  | nil => exact hv
  | cons a l ih =>
    simp only [List.foldl_cons]
    refine ih _ ?_ (fun x hx => hl x (List.mem_cons_of_mem _ hx))
    split
    · exact hv
    · intro x hx
      rcases List.mem_append.1 hx with hx | hx
      · exact hv x hx
      · rw [List.mem_singleton.1 hx]; exact hl a (by simp)

theorem mem_take_P {P : ByteArray → Prop} {l : List ByteArray} (h : ∀ x ∈ l, P x) (n : Nat) : ∀ x ∈ l.take n, P x := fun x hx => h x (List.mem_of_mem_take hx)
theorem mem_snoc_P {P : ByteArray → Prop} {l : List ByteArray} (h : ∀ x ∈ l, P x) {y : ByteArray} (hy : P y) : ∀ x ∈ l ++ [y], P x := fun x hx => by
  rcases List.mem_append.1 hx with hx | hx
  · exact h x hx
  · rw [List.mem_singleton.1 hx]; exact hy
theorem mem_app_P {P : ByteArray → Prop} {l m : List ByteArray} (h : ∀ x ∈ l, P x) (h2 : ∀ x ∈ m, P x) : ∀ x ∈ l ++ m, P x := fun x hx => (List.mem_append.1 hx).elim (h x) (h2 x)

theorem Nm.label {P : ByteArray → Prop} {d : Db} (h : Nm P d) (x : ByteArray) (hx : dollarF x = false → P x) (h0 : d.kind = 0) : Nm P (takeLabelF d x).2 := by
  unfold takeLabelF
  split
  · exact h
  · next hd =>
    split
    · exact h
    · next hl =>
      split
      · exact h
      · next ht =>
        have hP := hx (by simpa using hd)
        have hnl : hasF d.labels x = false := by
          unfold isTakenF at ht
          cases e : hasF d.labels x
          · rfl
          · rw [e] at ht; simp at ht
        refine ⟨mem_snoc_P h.lab hP, h.con, h.var, h.act, h.typ, h.sym, fun s hs => (h.sts s hs).mono _ _ (fun y hy => has_mono hy) (fun y hy => hy), by simp, ?_, ?_, ?_, ?_, h.diff, fun _ => h.prf (by omega)⟩
        · intro _
          refine ⟨hP, by simpa using hl, has_last _ _, ?_⟩
          intro s hs hk
          cases e : (s.label.toList == x.toList)
          · rfl
          · have hso := h.sts s hs
            have := has_congr e ((hso.lab (hso.kind.resolve_left hk)).2.2)
            rw [hnl] at this; cases this
        · intro hk; simp at hk
        · intro hk; simp at hk
        · intro _; exact h.none (Or.inl h0)
theorem Nm.first {P : ByteArray → Prop} {d : Db} (h : Nm P d) (x : ByteArray) (hx : dollarF x = false → P x) (h0 : d.kind = 0) : Nm P (takeFirstF d x).2 := by
  have hno := h.none (Or.inl h0)
  unfold takeFirstF
  split
  · exact ⟨h.lab, h.con, h.var, h.act, h.typ, h.sym, h.sts, h.kind, h.here, h.head, h.two, h.none, h.diff, h.prf⟩
  · split
    · split
      · exact h
      · unfold endBothF
        split
        · exact ⟨h.lab, h.con, h.var, mem_take_P h.act _, mem_take_P h.typ _, h.sym, h.sts, h.kind, h.here, h.head, h.two, h.none, h.diff, h.prf⟩
        · refine ⟨h.lab, h.con, h.var, mem_take_P h.act _, mem_take_P h.typ _, h.sym, endSts_ok h.sts _, h.kind, ?_, h.head, h.two, h.none, endSts_dif h.diff _, h.prf⟩
          intro hk
          have hk' : 2 ≤ d.kind ∧ d.kind ≤ 6 := hk
          omega
    · have mk : ∀ k : Int, 0 ≤ k ∧ k ≤ 8 → k = 7 ∨ k = 8 ∨ k = 1 → Nm P { d with kind := k } := by
        intro k hk hk2
        refine ⟨h.lab, h.con, h.var, h.act, h.typ, h.sym, h.sts, hk, ?_, ?_, ?_, ?_, h.diff, fun _ => h.prf (by omega)⟩
        · intro (hh : 2 ≤ k ∧ k ≤ 6); omega
        · intro (hh : 2 ≤ k ∧ k ≤ 5); omega
        · intro (hh : k = 2); omega
        · intro _; exact hno
      split
      · split
        · exact h
        · exact mk 7 (by omega) (by omega)
      · split
        · exact mk 8 (by omega) (by omega)
        · split
          · exact mk 1 (by omega) (by omega)
          · split
            · exact h
            · exact h.label x hx h0
theorem Nm.keyword {P : ByteArray → Prop} {d : Db} (h : Nm P d) (x : ByteArray) (h6 : d.kind = 6) : Nm P (takeKeywordF d x).2 := by
  have hno := h.none (Or.inr h6)
  have mk : ∀ k : Int, 2 ≤ k ∧ k ≤ 5 → Nm P { d with kind := k } := by
    intro k hk
    refine ⟨h.lab, h.con, h.var, h.act, h.typ, h.sym, h.sts, ⟨by show 0 ≤ k; omega, by show k ≤ 8; omega⟩, ?_, ?_, ?_, ?_, h.diff, fun _ => h.prf (by omega)⟩
    · intro _; exact h.here (by omega)
    · intro _ c r hc
      have hc' : d.symbols = c :: r := hc
      rw [hno] at hc'; cases hc'
    · intro _; show d.symbols.length ≤ 2; rw [hno]; simp
    · intro (hh : k = 0 ∨ k = 6); omega
  unfold takeKeywordF
  split
  · exact mk 2 (by omega)
  · split
    · exact mk 3 (by omega)
    · split
      · exact mk 4 (by omega)
      · split
        · exact mk 5 (by omega)
        · exact h
theorem Nm.done {P : ByteArray → Prop} {d : Db} (hl : ∀ x ∈ d.labels, P x) (hc : ∀ x ∈ d.constants, P x) (hv : ∀ x ∈ d.variables, P x) (ha : ∀ x ∈ d.active, P x) (ht : ∀ x ∈ d.typed, P x) (hs : ∀ s ∈ d.sts, StOk P d.labels d.constants s) (hd : Dif d.sts) (k : Int) (hk : k = 0) (b : ByteArray) (pr : List (ByteArray × Pl)) :
    Nm P { d with kind := k, label := b, symbols := [], inProof := false, proof := pr } := by
  subst hk
  exact ⟨hl, hc, hv, ha, ht, fun x hx => by simp at hx, hs, by simp, fun h => by simp at h, fun h => by simp at h, fun h => by simp at h, fun _ => rfl, hd, fun _ => rfl⟩
theorem getD1_mem (l : List ByteArray) (h : 1 < l.length) : l.getD 1 ⟨#[]⟩ ∈ l := by
  rw [List.getD_eq_getElem?_getD, List.getElem?_eq_getElem h]; exact List.getElem_mem h
theorem Nm.fin {P : ByteArray → Prop} {d : Db} (h : Nm P d) (p : Pl) (h0 : d.kind ≠ 0) (h6 : d.kind ≠ 6) : Nm P (endF d p).2 := by
  have hk := h.kind
  unfold endF
  split
  · exact h
  · next hle =>
    split
    · exact h
    · unfold declareF
      split
      · exact Nm.done (d := { d with constants := d.constants ++ d.symbols }) h.lab (mem_app_P h.con h.sym) h.var h.act h.typ (fun s hs => (h.sts s hs).mono _ _ (fun y hy => hy) (fun y hy => has_mono hy)) h.diff 0 rfl _ _
      · split
        · exact Nm.done (d := varsAt d d.symbols.length) h.lab h.con (addVars_P _ _ h.var (mem_take_P h.sym _)) (mem_app_P h.act h.sym) h.typ h.sts h.diff 0 rfl _ _
        · next h7 h8 =>
          have hk5 : d.kind = 1 ∨ (2 ≤ d.kind ∧ d.kind ≤ 5) := by
            have a7 : d.kind ≠ 7 := by simpa using h7
            have a8 : d.kind ≠ 8 := by simpa using h8
            omega
          have hlen : leastF d ≤ d.symbols.length := by omega
          have hnew : StOk P d.labels d.constants ⟨d.kind, d.label, d.symbols, d.proof, p, 0⟩ := by
            refine ⟨hk5, h.sym, ?_, ?_, ?_⟩
            · intro (hh : 2 ≤ d.kind ∧ d.kind ≤ 5)
              have hr := h.here (by omega)
              exact ⟨hr.1, hr.2.1, hr.2.2.1⟩
            · intro (hh : 2 ≤ d.kind ∧ d.kind ≤ 5)
              have h1 : 1 ≤ leastF d := by unfold leastF; split <;> omega
              cases hsy : d.symbols with
              | nil => rw [hsy] at hlen; simp at hlen; omega
              | cons c r => exact ⟨c, r, rfl, h.head hh c r hsy⟩
            · intro (hh : d.kind = 2)
              have h2 : leastF d = 2 := by unfold leastF; rw [if_pos (Or.inr (by rw [hh]; rfl))]
              have := h.two hh
              show d.symbols.length = 2
              omega
          have hsts : ∀ s ∈ d.sts ++ [⟨d.kind, d.label, d.symbols, d.proof, p, 0⟩], StOk P d.labels d.constants s := by
            intro s hs
            rcases List.mem_append.1 hs with hs | hs
            · exact h.sts s hs
            · rw [List.mem_singleton.1 hs]; exact hnew
          have hdif : Dif (d.sts ++ [⟨d.kind, d.label, d.symbols, d.proof, p, 0⟩]) := by
            refine dif_snoc h.diff _ ?_
            intro (hh : d.kind ≠ 1) s hs hs1
            exact (h.here (by omega)).2.2.2 s hs hs1
          unfold typeIt addSt
          split
          · next ht => exact Nm.done (d := { d with typed := d.typed ++ [d.symbols.getD 1 ⟨#[]⟩], sts := d.sts ++ [⟨d.kind, d.label, d.symbols, d.proof, p, 0⟩] }) h.lab h.con h.var h.act (mem_snoc_P h.typ (h.sym _ (getD1_mem _ ht.2))) hsts hdif 0 rfl _ _
          · exact Nm.done (d := { d with sts := d.sts ++ [⟨d.kind, d.label, d.symbols, d.proof, p, 0⟩] }) h.lab h.con h.var h.act h.typ hsts hdif 0 rfl _ _
theorem Nm.take {P : ByteArray → Prop} {d : Db} (h : Nm P d) (x : ByteArray) (p : Pl) (hx : dollarF x = false → P x) : Nm P (takeF d x p).2 := by
  unfold takeF
  split
  · next h0 => exact h.first x hx (by simpa using h0)
  · next h0 =>
    split
    · next h6 => exact h.keyword x (by simpa using h6)
    · next h6 =>
      have h0' : d.kind ≠ 0 := by simpa using h0
      have h6' : d.kind ≠ 6 := by simpa using h6
      split
      · exact h.fin p h0' h6'
      · split
        · unfold beginProofF
          split
          · exact h
          · next hb _ => exact ⟨h.lab, h.con, h.var, h.act, h.typ, h.sym, h.sts, h.kind, h.here, h.head, h.two, h.none, h.diff, fun hk => absurd (show d.kind = 5 by simpa using hb.2.1) hk⟩
        · split
          · exact h
          · next hd =>
            split
            · exact ⟨h.lab, h.con, h.var, h.act, h.typ, h.sym, h.sts, h.kind, h.here, h.head, h.two, h.none, h.diff, h.prf⟩
            · split
              · next hc =>
                have hc0 : checkSymbolF d x = 0 := by simpa using hc
                refine ⟨h.lab, h.con, h.var, h.act, h.typ, mem_snoc_P h.sym (hx (by simpa using hd)), h.sts, h.kind, h.here, ?_, ?_, ?_, h.diff, h.prf⟩
                · intro (hk : 2 ≤ d.kind ∧ d.kind ≤ 5) c r (he : d.symbols ++ [x] = c :: r)
                  cases hs : d.symbols with
                  | nil =>
                    rw [hs] at he
                    simp at he
                    obtain ⟨rfl, -⟩ := he
                    unfold checkSymbolF at hc0
                    rw [if_neg (by simp; omega), if_neg (by simp; omega), if_neg (by simp; omega), if_pos (by rw [hs]; rfl)] at hc0
                    unfold checkTypecodeF at hc0
                    cases e : hasF d.constants x
                    · rw [e] at hc0; simp at hc0
                    · rfl
                  | cons c' r' =>
                    rw [hs] at he
                    simp at he
                    rw [← he.1]; exact h.head hk c' r' hs
                · intro (hk : d.kind = 2)
                  show (d.symbols ++ [x]).length ≤ 2
                  rw [List.length_append]
                  by_cases hz : d.symbols.length = 0
                  · rw [hz]; simp
                  · unfold checkSymbolF at hc0
                    rw [if_neg (by simp; omega), if_neg (by simp; omega), if_neg (by simp; omega), if_neg hz, if_pos (by simp; omega)] at hc0
                    unfold checkFloatingF at hc0
                    by_cases hl : 1 < d.symbols.length
                    · rw [if_pos hl] at hc0; simp at hc0
                    · simp; omega
                · intro (hk : d.kind = 0 ∨ d.kind = 6); omega
              · exact h
theorem Nm.empty {P : ByteArray → Prop} : Nm P emptyDb := by
  refine ⟨?_, ?_, ?_, ?_, ?_, ?_, ?_, ?_, ?_, ?_, ?_, fun _ => rfl, ?_, fun _ => rfl⟩ <;> simp [emptyDb, Dif]
theorem readTo_nm {P : ByteArray → Prop} (n s : ByteArray) (hP : ∀ k, k ≤ s.size → isWordF (nextF s k).1 = true → dollarF (nextF s k).1.text = false → P (nextF s k).1.text) (f : Nat) : ∀ k d, k ≤ s.size → Nm P d → Nm P (readTo n s f k d).2 := by
  induction f with
  | zero => intro k d _ h; exact h
  | succ f ih =>
    intro k d hk h
    have hl := nextF_le s k hk
    rw [readTo]
    split
    · next hw =>
      split
      · exact ih _ _ hl.2.1 (h.take _ _ (hP k hk hw))
      · exact h.take _ _ (hP k hk hw)
    · split
      · split <;> exact h
      · exact h

/-- A word that is no key: printable bytes, none of them '$'. -/
def Wd (x : ByteArray) : Prop := 0 < x.size ∧ ∀ i, i < x.size → plainB (byteAt x i) = true ∧ byteAt x i ≠ 36
theorem wordTo_bytes (d : ByteArray) (f : Nat) : ∀ k i, k ≤ i → i < wordTo d f k → plainB (byteAt d i) = true := by
  induction f with
  | zero => intro k i h1 h2; simp [wordTo] at h2; omega
  | succ f ih =>
    intro k i h1 h2
    rw [wordTo] at h2
    split at h2
    · next hc =>
      by_cases e : i = k
      · subst e; exact hc.2.2
      · exact ih (k + 1) i (by omega) h2
    · omega
theorem runF_plain (d : ByteArray) (k : Nat) (hk : k ≤ d.size) (h : isWordF (runF d k).1 = true) : 0 < (runF d k).1.text.size ∧ ∀ i, i < (runF d k).1.text.size → plainB (byteAt (runF d k).1.text i) = true := by
  unfold runF at h ⊢
  simp only at h ⊢
  have h1 := skip_le d k hk
  have h2 := wordEnd_le d (skip d k) h1.2
  split
  · next hb => rw [if_pos hb] at h; simp [isWordF] at h
  · next hb =>
    rw [if_neg hb] at h
    split
    · next hz => rw [if_pos hz] at h; simp [isWordF] at h
    · next hz =>
      have hsz : (d.extract (skip d k) (wordEnd d (skip d k))).size = wordEnd d (skip d k) - skip d k := by
        rw [ByteArray.size_extract]; omega
      simp only
      rw [hsz]
      refine ⟨by omega, ?_⟩
      intro i hi
      have hbe : byteAt (d.extract (skip d k) (wordEnd d (skip d k))) i = byteAt d (skip d k + i) := by
        rw [byteAt_of _ i (by rw [hsz]; exact hi), byteAt_of d (skip d k + i) (by omega), ByteArray.getElem_extract]
      rw [hbe]
      exact wordTo_bytes d (d.size - skip d k) (skip d k) _ (by omega) (show skip d k + i < wordEnd d (skip d k) by omega)
theorem nextF_run (d : ByteArray) (k : Nat) (hk : k ≤ d.size) (h : isWordF (nextF d k).1 = true) : ∃ j, j ≤ d.size ∧ nextF d k = runF d j := by
  unfold nextF at h ⊢
  generalize d.size - k + 1 = f at h ⊢
  induction f generalizing k with
  | zero => simp [nextTo, isWordF] at h
  | succ f ih =>
    have rl := runF_le d k hk
    have cl := commentF_le d (runF d k).2 rl.2.1
    rw [nextTo] at h ⊢
    split at h
    · next h1 =>
      rw [if_pos h1]
      split at h
      · next h2 => rw [if_pos h2]; exact ih _ cl.2 h
      · next h2 => exact absurd h h2
    · next h1 => rw [if_neg h1]; exact ⟨k, hk, rfl⟩
theorem nextF_wd (d : ByteArray) (k : Nat) (hk : k ≤ d.size) (h : isWordF (nextF d k).1 = true) (hd : dollarF (nextF d k).1.text = false) : Wd (nextF d k).1.text := by
  obtain ⟨j, hj, e⟩ := nextF_run d k hk h
  rw [e] at h hd ⊢
  have hp := runF_plain d j hj h
  refine ⟨hp.1, fun i hi => ⟨hp.2 i hi, ?_⟩⟩
  intro h36
  unfold dollarF at hd
  rw [List.any_eq_false] at hd
  exact hd i (List.mem_range.2 hi) (by simp [h36])
theorem rdM_nm (T : ByteArray) : Nm Wd (rdM T).2 := readTo_nm _ T (fun k hk h hd => nextF_wd T k hk h hd) _ 0 _ (Nat.zero_le _) Nm.empty

end Go.Proofs.YtcipkfhpcbddiaaGreat
