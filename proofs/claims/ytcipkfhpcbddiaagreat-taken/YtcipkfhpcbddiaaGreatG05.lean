/- Our texts: ReadF, ReadB, Pure1, Pure2, Pure3, Pure4. -/
import Derived.Test.YtcipkfhpcbddiaaGreatG01
import Derived.Test.YtcipkfhpcbddiaaGreatG02
import Derived.Test.YtcipkfhpcbddiaaGreatG04
/- Package reader, as a function of the data: files, inclusions; a file without inclusions. -/
namespace Go.Proofs.YtcipkfhpcbddiaaGreat
open Go.RowKit

def emptyDb : Db := ⟨[], [], [], [], [], [], [], [], 0, ⟨#[]⟩, [], false, []⟩
/-- A fault: its rule and place; rule 0: none. -/
abbrev Flt := Int × Pl
def noFlt : Flt := (0, ⟨⟨#[]⟩, 0, 0⟩)
def fltV (f : Flt) : Value := .agg #[.int .i64 f.1, .string f.2.file, .int .i64 f.2.line, .int .i64 f.2.col]
def plAt (n s : ByteArray) (p : Nat) : Pl := ⟨n, lineAt s p, colAt s p⟩
def itemFlt (n s : ByteArray) (i : Item) : Flt := (if i.fin = true then 7 else i.rule, plAt n s i.pos)
/-- What reading leaves: a fault, which files were begun, the database. -/
abbrev Red := Flt × List Bool × Db

/-- Where an inclusion leads: a fault, or a file and the place behind it. -/
def incF (fs : List (ByteArray × ByteArray)) (x z : Nat) (p : Pl) (d : Db) : Flt ⊕ (Nat × Nat) :=
  if openF d = true then .inl (4, p)
  else if isWordF (nextF (fileDt fs x) z).1 = false then .inl (itemFlt (fileNm fs x) (fileDt fs x) (nextF (fileDt fs x) z).1)
  else if dollarF (nextF (fileDt fs x) z).1.text = true then .inl (5, plAt (fileNm fs x) (fileDt fs x) (nextF (fileDt fs x) z).1.pos)
  else if findF fs (nextF (fileDt fs x) z).1.text < 0 then .inl (6, plAt (fileNm fs x) (fileDt fs x) (nextF (fileDt fs x) z).1.pos)
  else if isWordF (nextF (fileDt fs x) (nextF (fileDt fs x) z).2).1 = false then .inl (itemFlt (fileNm fs x) (fileDt fs x) (nextF (fileDt fs x) (nextF (fileDt fs x) z).2).1)
  else if ((nextF (fileDt fs x) (nextF (fileDt fs x) z).2).1.text.toList == [36, 93]) = false then .inl (5, plAt (fileNm fs x) (fileDt fs x) (nextF (fileDt fs x) (nextF (fileDt fs x) z).2).1.pos)
  else .inr ((findF fs (nextF (fileDt fs x) z).1.text).toNat, (nextF (fileDt fs x) (nextF (fileDt fs x) z).2).2)
def incR (rf : Nat → List Bool → Db → Red) (fs : List (ByteArray × ByteArray)) (x z : Nat) (p : Pl) (bg : List Bool) (d : Db) : Red × Nat :=
  match incF fs x z p d with
  | .inl f => ((f, bg, d), z)
  | .inr (j, z') => (rf j bg d, z')
/-- One word: what it leaves, and where reading goes on. -/
def wordR (rf : Nat → List Bool → Db → Red) (fs : List (ByteArray × ByteArray)) (x z : Nat) (t : ByteArray) (p : Pl) (bg : List Bool) (d : Db) : Red × Nat :=
  if (t.toList == [36, 91]) = true then incR rf fs x z p bg d
  else ((if ((takeF d t p).1 == 0) = true then noFlt else ((takeF d t p).1, p), bg, (takeF d t p).2), z)
/-- File x from place k on. -/
def readGo (fs : List (ByteArray × ByteArray)) : Nat → Nat → Nat → List Bool → Db → Red
  | 0, _, _, bg, d => (noFlt, bg, d)
  | f + 1, x, k, bg, d =>
    if isWordF (nextF (fileDt fs x) k).1 = true then
      (if ((wordR (fun j bg d => if bg.getD j true = true then (noFlt, bg, d) else readGo fs f j 0 (bg.set j true) d) fs x (nextF (fileDt fs x) k).2 (nextF (fileDt fs x) k).1.text (plAt (fileNm fs x) (fileDt fs x) (nextF (fileDt fs x) k).1.pos) bg d).1.1.1 == 0) = true
       then readGo fs f x (wordR (fun j bg d => if bg.getD j true = true then (noFlt, bg, d) else readGo fs f j 0 (bg.set j true) d) fs x (nextF (fileDt fs x) k).2 (nextF (fileDt fs x) k).1.text (plAt (fileNm fs x) (fileDt fs x) (nextF (fileDt fs x) k).1.pos) bg d).2
          (wordR (fun j bg d => if bg.getD j true = true then (noFlt, bg, d) else readGo fs f j 0 (bg.set j true) d) fs x (nextF (fileDt fs x) k).2 (nextF (fileDt fs x) k).1.text (plAt (fileNm fs x) (fileDt fs x) (nextF (fileDt fs x) k).1.pos) bg d).1.2.1
          (wordR (fun j bg d => if bg.getD j true = true then (noFlt, bg, d) else readGo fs f j 0 (bg.set j true) d) fs x (nextF (fileDt fs x) k).2 (nextF (fileDt fs x) k).1.text (plAt (fileNm fs x) (fileDt fs x) (nextF (fileDt fs x) k).1.pos) bg d).1.2.2
       else (wordR (fun j bg d => if bg.getD j true = true then (noFlt, bg, d) else readGo fs f j 0 (bg.set j true) d) fs x (nextF (fileDt fs x) k).2 (nextF (fileDt fs x) k).1.text (plAt (fileNm fs x) (fileDt fs x) (nextF (fileDt fs x) k).1.pos) bg d).1)
    else if (nextF (fileDt fs x) k).1.fin = true ∧ openF d = false then (noFlt, bg, d) else (itemFlt (fileNm fs x) (fileDt fs x) (nextF (fileDt fs x) k).1, bg, d)
/-- readFile: nothing, if the file was begun. -/
def fileR (fs : List (ByteArray × ByteArray)) (f : Nat) (j : Nat) (bg : List Bool) (d : Db) : Red :=
  if bg.getD j true = true then (noFlt, bg, d) else readGo fs f j 0 (bg.set j true) d
/-- What one word leaves in a round. -/
def stepR (fs : List (ByteArray × ByteArray)) (f x k : Nat) (bg : List Bool) (d : Db) : Red × Nat :=
  wordR (fileR fs f) fs x (nextF (fileDt fs x) k).2 (nextF (fileDt fs x) k).1.text (plAt (fileNm fs x) (fileDt fs x) (nextF (fileDt fs x) k).1.pos) bg d
theorem go_on (fs : List (ByteArray × ByteArray)) (f x k : Nat) (bg : List Bool) (d : Db) (h1 : isWordF (nextF (fileDt fs x) k).1 = true) (h2 : ((stepR fs f x k bg d).1.1.1 == 0) = true) :
    readGo fs (f + 1) x k bg d = readGo fs f x (stepR fs f x k bg d).2 (stepR fs f x k bg d).1.2.1 (stepR fs f x k bg d).1.2.2 := by
  rw [readGo, if_pos h1]; exact if_pos h2
theorem go_stop (fs : List (ByteArray × ByteArray)) (f x k : Nat) (bg : List Bool) (d : Db) (h1 : isWordF (nextF (fileDt fs x) k).1 = true) (h2 : ((stepR fs f x k bg d).1.1.1 == 0) = false) :
    readGo fs (f + 1) x k bg d = (stepR fs f x k bg d).1 := by
  rw [readGo, if_pos h1]; exact if_neg (fun hh => Bool.noConfusion (h2.symm.trans hh))
theorem go_end (fs : List (ByteArray × ByteArray)) (f x k : Nat) (bg : List Bool) (d : Db) (h1 : isWordF (nextF (fileDt fs x) k).1 = false) (h2 : (nextF (fileDt fs x) k).1.fin = true) (h3 : openF d = false) :
    readGo fs (f + 1) x k bg d = (noFlt, bg, d) := by
  rw [readGo, if_neg (by simp [h1]), if_pos ⟨h2, h3⟩]
theorem go_bad (fs : List (ByteArray × ByteArray)) (f x k : Nat) (bg : List Bool) (d : Db) (h1 : isWordF (nextF (fileDt fs x) k).1 = false) (h2 : ¬ ((nextF (fileDt fs x) k).1.fin = true ∧ openF d = false)) :
    readGo fs (f + 1) x k bg d = (itemFlt (fileNm fs x) (fileDt fs x) (nextF (fileDt fs x) k).1, bg, d) := by
  rw [readGo, if_neg (by simp [h1]), if_neg h2]

/-- A file without inclusions: the rule and place of its first fault, and the database. -/
def readTo (n s : ByteArray) : Nat → Nat → Db → (Int × Nat) × Db
  | 0, _, d => ((0, 0), d)
  | f + 1, k, d =>
    if isWordF (nextF s k).1 = true then
      (if ((takeF d (nextF s k).1.text (plAt n s (nextF s k).1.pos)).1 == 0) = true then readTo n s f (nextF s k).2 (takeF d (nextF s k).1.text (plAt n s (nextF s k).1.pos)).2
       else (((takeF d (nextF s k).1.text (plAt n s (nextF s k).1.pos)).1, (nextF s k).1.pos), (takeF d (nextF s k).1.text (plAt n s (nextF s k).1.pos)).2))
    else if (nextF s k).1.fin = true then (if openF d = false then ((0, 0), d) else ((7, (nextF s k).1.pos), d)) else (((nextF s k).1.rule, (nextF s k).1.pos), d)
def readF (n s : ByteArray) (k : Nat) (d : Db) : (Int × Nat) × Db := readTo n s (s.size - k + 1) k d
def fltOf (n s : ByteArray) (q : Int × Nat) : Flt := if (q.1 == 0) = true then noFlt else (q.1, plAt n s q.2)
/-- No word of this text is an inclusion. -/
def NoInc (s : ByteArray) : Prop := ∀ k, k ≤ s.size → isWordF (nextF s k).1 = true → ((nextF s k).1.text.toList == [36, 91]) = false

theorem isWordF_eq {i : Item} (h : isWordF i = true) : i = ⟨i.text, 0, false, i.pos⟩ := by
  obtain ⟨t, u, f, p⟩ := i
  simp [isWordF] at h
  rw [h.1, h.2]
theorem isWordF_not {i : Item} (h : isWordF i = false) (hf : i.fin = false) : (i.rule == 0) = false := by
  simp [isWordF, hf] at h
  simpa using h

theorem readTo_fuel (n s : ByteArray) (f k : Nat) (d : Db) (hk : k ≤ s.size) (hf : s.size - k + 1 ≤ f) : readTo n s f k d = readF n s k d := by
  unfold readF
  suffices h : ∀ f g k d, k ≤ s.size → s.size - k + 1 ≤ f → s.size - k + 1 ≤ g → readTo n s f k d = readTo n s g k d from h _ _ _ _ hk hf (Nat.le_refl _)
  clear hf hk f k d
  intro f
  induction f with
  | zero => intro g k d _ h; omega
  | succ f ih =>
    intro g k d hk hf hg
    cases g with
    | zero => omega
    | succ g =>
      rw [readTo, readTo]
      split
      · next h =>
        have hl := nextF_le s k hk
        have hl2 := hl.2.2 h
        split
        · exact ih g _ _ hl.2.1 (by omega) (by omega)
        · rfl
      · rfl
theorem read_on (n s : ByteArray) (k : Nat) (d : Db) (hk : k ≤ s.size) (h1 : isWordF (nextF s k).1 = true) (h2 : ((takeF d (nextF s k).1.text (plAt n s (nextF s k).1.pos)).1 == 0) = true) :
    readF n s k d = readF n s (nextF s k).2 (takeF d (nextF s k).1.text (plAt n s (nextF s k).1.pos)).2 := by
  have hl := nextF_le s k hk
  have hl2 := hl.2.2 h1
  conv => lhs; unfold readF
  rw [readTo, if_pos h1, if_pos h2, readTo_fuel n s _ _ _ hl.2.1 (by omega)]
theorem read_rule (n s : ByteArray) (k : Nat) (d : Db) (h1 : isWordF (nextF s k).1 = true) (h2 : ((takeF d (nextF s k).1.text (plAt n s (nextF s k).1.pos)).1 == 0) = false) :
    readF n s k d = (((takeF d (nextF s k).1.text (plAt n s (nextF s k).1.pos)).1, (nextF s k).1.pos), (takeF d (nextF s k).1.text (plAt n s (nextF s k).1.pos)).2) := by
  unfold readF
  rw [readTo, if_pos h1, if_neg (by simp [h2])]
theorem read_end (n s : ByteArray) (k : Nat) (d : Db) (h1 : isWordF (nextF s k).1 = false) (h2 : (nextF s k).1.fin = true) (h3 : openF d = false) : readF n s k d = ((0, 0), d) := by
  unfold readF
  rw [readTo, if_neg (by simp [h1]), if_pos h2, if_pos h3]
theorem read_open (n s : ByteArray) (k : Nat) (d : Db) (h1 : isWordF (nextF s k).1 = false) (h2 : (nextF s k).1.fin = true) (h3 : openF d = true) : readF n s k d = ((7, (nextF s k).1.pos), d) := by
  unfold readF
  rw [readTo, if_neg (by simp [h1]), if_pos h2, if_neg (by simp [h3])]
theorem read_bad (n s : ByteArray) (k : Nat) (d : Db) (h1 : isWordF (nextF s k).1 = false) (h2 : (nextF s k).1.fin = false) : readF n s k d = (((nextF s k).1.rule, (nextF s k).1.pos), d) := by
  unfold readF
  rw [readTo, if_neg (by simp [h1]), if_neg (by simp [h2])]

/-- Without inclusions a file is read as if it were alone. -/
theorem go_plain (fs : List (ByteArray × ByteArray)) (x : Nat) (hni : NoInc (fileDt fs x)) (f : Nat) : ∀ k bg d, k ≤ (fileDt fs x).size → (fileDt fs x).size - k + 1 ≤ f →
    readGo fs f x k bg d = (fltOf (fileNm fs x) (fileDt fs x) (readF (fileNm fs x) (fileDt fs x) k d).1, bg, (readF (fileNm fs x) (fileDt fs x) k d).2) := by
  induction f with
  | zero => intro k bg d hk hf; omega
  | succ f ih =>
    intro k bg d hk hf
    have hl := nextF_le (fileDt fs x) k hk
    cases h1 : isWordF (nextF (fileDt fs x) k).1 with
    | true =>
      have hl2 := hl.2.2 h1
      have hn := hni k hk h1
      have es : stepR fs f x k bg d = ((if ((takeF d (nextF (fileDt fs x) k).1.text (plAt (fileNm fs x) (fileDt fs x) (nextF (fileDt fs x) k).1.pos)).1 == 0) = true then noFlt else ((takeF d (nextF (fileDt fs x) k).1.text (plAt (fileNm fs x) (fileDt fs x) (nextF (fileDt fs x) k).1.pos)).1, plAt (fileNm fs x) (fileDt fs x) (nextF (fileDt fs x) k).1.pos), bg, (takeF d (nextF (fileDt fs x) k).1.text (plAt (fileNm fs x) (fileDt fs x) (nextF (fileDt fs x) k).1.pos)).2), (nextF (fileDt fs x) k).2) := by
        unfold stepR wordR
        rw [hn]; simp
      cases h2 : ((takeF d (nextF (fileDt fs x) k).1.text (plAt (fileNm fs x) (fileDt fs x) (nextF (fileDt fs x) k).1.pos)).1 == 0) with
      | true =>
        rw [go_on fs f x k bg d h1 (by rw [es, h2]; rfl), es, ih _ _ _ hl.2.1 (by omega), ← read_on _ _ k d hk h1 h2]
      | false =>
        rw [go_stop fs f x k bg d h1 (by rw [es, h2]; simpa using h2), es, read_rule _ _ k d h1 h2]
        simp only [fltOf, h2]
    | false =>
      cases h2 : (nextF (fileDt fs x) k).1.fin with
      | true =>
        cases h3 : openF d with
        | false => rw [go_end fs f x k bg d h1 h2 h3, read_end _ _ k d h1 h2 h3]; rfl
        | true => rw [go_bad fs f x k bg d h1 (by simp [h3]), read_open _ _ k d h1 h2 h3]; simp [fltOf, itemFlt, h2]
      | false =>
        have h4 := isWordF_not h1 h2
        rw [go_bad fs f x k bg d h1 (by simp [h2]), read_bad _ _ k d h1 h2]; simp [fltOf, itemFlt, h2, h4]

end Go.Proofs.YtcipkfhpcbddiaaGreat

/- Package reader: how much can be read, and how long the lists can be. No walk. -/
namespace Go.Proofs.YtcipkfhpcbddiaaGreat
open Go.RowKit

/-- How long the lists can be behind m words. -/
structure Bnd (d : Db) (m : Nat) : Prop where
  labels : d.labels.length ≤ m
  constants : d.constants.length + d.symbols.length ≤ m
  variables : d.variables.length + d.symbols.length ≤ m
  active : d.active.length + d.symbols.length ≤ m
  typed : d.typed.length + d.symbols.length ≤ m
  blocks : d.blocks.length ≤ m
  sts : d.sts.length ≤ m
  proof : d.proof.length ≤ m
  inner : ∀ p, p ∈ d.blocks → p.1 ≤ m ∧ p.2 ≤ m
  same : d.rbl.length = d.blocks.length
  recs : ∀ x, x ∈ d.rbl → x ≤ d.sts.length

theorem Bnd.small {d : Db} {m N : Nat} (h : Bnd d m) (hN : m ≤ N) : Small d N ∧ Inner d N :=
  ⟨⟨by have := h.labels; omega, by have := h.constants; omega, by have := h.variables; omega, by have := h.active; omega, by have := h.typed; omega, by have := h.blocks; omega, by have := h.sts; omega, by have := h.blocks; have := h.same; omega, by have := h.constants; omega, by have := h.proof; omega⟩,
   ⟨fun p hp => by have := h.inner p hp; omega, h.same, h.recs⟩⟩
theorem Bnd.mono {d : Db} {m m' : Nat} (h : Bnd d m) (hm : m ≤ m') : Bnd d m' :=
  ⟨by have := h.labels; omega, by have := h.constants; omega, by have := h.variables; omega, by have := h.active; omega, by have := h.typed; omega, by have := h.blocks; omega, by have := h.sts; omega, by have := h.proof; omega, fun p hp => by have := h.inner p hp; omega, h.same, h.recs⟩
theorem Bnd.empty : Bnd emptyDb 0 := by
  refine ⟨?_, ?_, ?_, ?_, ?_, ?_, ?_, ?_, ?_, ?_, ?_⟩ <;> simp [emptyDb]
theorem Bnd.plain {d : Db} {m : Nat} (h : Bnd d m) (k : Int) (l : ByteArray) (b : Bool) : Bnd { d with kind := k, label := l, inProof := b } m := ⟨h.labels, h.constants, h.variables, h.active, h.typed, h.blocks, h.sts, h.proof, h.inner, h.same, h.recs⟩

theorem endSts_len (l : List St) (b : Nat) : (endSts l b).length = l.length := endTo_len l b l.length

theorem Bnd.declare {d : Db} {m : Nat} (h : Bnd d m) (p : Pl) : Bnd { declareF d p with kind := 0, label := ⟨#[]⟩, symbols := [], inProof := false, proof := [] } (m + 1) := by
  have e2 := h.constants
  have e3 := h.variables
  have e4 := h.active
  have e5 := h.typed
  have h' := h.mono (Nat.le_succ m)
  unfold declareF
  split
  · exact ⟨h'.labels, by simp; omega, by simp; omega, by simp; omega, by simp; omega, h'.blocks, h'.sts, by simp, h'.inner, h'.same, h'.recs⟩
  · split
    · have := vars_len d.variables (d.symbols.take d.symbols.length)
      simp only [List.take_length] at this
      exact ⟨h'.labels, by simp [varsAt]; omega, by simp [varsAt]; omega, by simp [varsAt]; omega, by simp [varsAt]; omega, h'.blocks, h'.sts, by simp, h'.inner, h'.same, h'.recs⟩
    · unfold typeIt addSt
      have := h.sts
      split
      · next hc => exact ⟨h'.labels, by simp; omega, by simp; omega, by simp; omega, by simp; omega, h'.blocks, by simp; omega, by simp, h'.inner, h'.same, fun x hx => by have := h.recs x hx; simp; omega⟩
      · exact ⟨h'.labels, by simp; omega, by simp; omega, by simp; omega, by simp; omega, h'.blocks, by simp; omega, by simp, h'.inner, h'.same, fun x hx => by have := h.recs x hx; simp; omega⟩

theorem Bnd.take {d : Db} {m : Nat} (h : Bnd d m) (x : ByteArray) (pl : Pl) : Bnd (takeF d x pl).2 (m + 1) := by
  have h' := h.mono (Nat.le_succ m)
  have hk := fun k => h'.plain k d.label d.inProof
  have e1 := h.labels
  have e2 := h.constants
  have e3 := h.variables
  have e4 := h.active
  have e5 := h.typed
  have e6 := h.blocks
  have hlab : Bnd (takeLabelF d x).2 (m + 1) := by
    unfold takeLabelF
    split
    · exact h'
    · split
      · exact h'
      · split
        · exact h'
        · exact ⟨by simp; omega, h'.constants, h'.variables, h'.active, h'.typed, h'.blocks, h'.sts, h'.proof, h'.inner, h'.same, h'.recs⟩
  have hkey : Bnd (takeKeywordF d x).2 (m + 1) := by
    unfold takeKeywordF
    split
    · exact hk 2
    · split
      · exact hk 3
      · split
        · exact hk 4
        · split
          · exact hk 5
          · exact h'
  have hfst : Bnd (takeFirstF d x).2 (m + 1) := by
    unfold takeFirstF
    split
    · refine ⟨h'.labels, h'.constants, h'.variables, h'.active, h'.typed, by simp; omega, h'.sts, h'.proof, ?_, by simp [h.same], ?_⟩
      · intro p hp
        simp only [List.mem_append, List.mem_singleton] at hp
        rcases hp with hp | rfl
        · exact h'.inner p hp
        · simp only; omega
      · intro y hy
        simp only [List.mem_append, List.mem_singleton] at hy
        rcases hy with hy | rfl
        · exact h.recs y hy
        · exact Nat.le_refl _
    · split
      · split
        · exact h'
        · next p hp =>
          unfold endBothF
          have hne : d.rbl ≠ [] := by
            intro e
            have := h.same
            rw [e, last_split hp] at this
            simp at this
          obtain ⟨y, hy⟩ : ∃ y, d.rbl.getLast? = some y := ⟨_, List.getLast?_eq_some_getLast hne⟩
          rw [hy]
          refine ⟨h'.labels, h'.constants, h'.variables, ?_, ?_, ?_, ?_, h'.proof, ?_, ?_, ?_⟩
          · simp only [endBlockF, List.length_take]; omega
          · simp only [endBlockF, List.length_take]; omega
          · simp only [endBlockF, List.length_dropLast]; omega
          · show (endSts d.sts y).length ≤ _; rw [endSts_len]; exact h'.sts
          · intro q hq
            simp only [endBlockF] at hq
            exact h'.inner q (List.dropLast_subset _ hq)
          · simp only [endBlockF, List.length_dropLast, h.same]
          · intro q hq
            show q ≤ (endSts d.sts y).length
            rw [endSts_len]
            exact h.recs q (List.dropLast_subset _ hq)
      · split
        · split
          · exact h'
          · exact hk 7
        · split
          · exact hk 8
          · split
            · exact hk 1
            · split
              · exact h'
              · exact hlab
  have hend : Bnd (endF d pl).2 (m + 1) := by
    unfold endF
    split
    · exact h'
    · split
      · exact h'
      · exact h.declare pl
  unfold takeF
  split
  · exact hfst
  · split
    · exact hkey
    · split
      · exact hend
      · split
        · unfold beginProofF
          split
          · exact h'
          · exact h'.plain d.kind d.label true
        · split
          · exact h'
          · split
            · exact ⟨h'.labels, h'.constants, h'.variables, h'.active, h'.typed, h'.blocks, h'.sts, by have := h.proof; simp; omega, h'.inner, h'.same, h'.recs⟩
            · split
              · exact ⟨h'.labels, by simp; omega, by simp; omega, by simp; omega, by simp; omega, h'.blocks, h'.sts, h'.proof, h'.inner, h'.same, h'.recs⟩
              · exact h'

/-- What files that were not begun can still bring. -/
def unb (fs : List (ByteArray × ByteArray)) (bg : List Bool) (j : Nat) : Nat := if bg.getD j true = true then 0 else (fileDt fs j).size + 2
def meas (fs : List (ByteArray × ByteArray)) (bg : List Bool) : Nat := unb fs bg 0 + unb fs bg 1 + unb fs bg 2 + unb fs bg 3
theorem meas_set (fs : List (ByteArray × ByteArray)) (bg : List Bool) (j : Nat) (hl : bg.length = 4) (hb : bg.getD j true = false) : meas fs (bg.set j true) + (fileDt fs j).size + 2 = meas fs bg := by
  match bg, hl with
  | [a, b, c, d], _ =>
    match j with
    | 0 => simp at hb; subst hb; simp [meas, unb]; omega
    | 1 => simp at hb; subst hb; simp [meas, unb]; omega
    | 2 => simp at hb; subst hb; simp [meas, unb]; omega
    | 3 => simp at hb; subst hb; simp [meas, unb]; omega
    | j + 4 => simp at hb

/-- Reading stays within what there is. -/
def Kin (fs : List (ByteArray × ByteArray)) (bg : List Bool) (m : Nat) (r : Red) : Prop :=
  r.2.1.length = 4 ∧ meas fs r.2.1 ≤ meas fs bg ∧ ∃ m', Bnd r.2.2 m' ∧ m' + meas fs r.2.1 ≤ m + meas fs bg

theorem step_kin (fs : List (ByteArray × ByteArray)) (f : Nat) (IH : ∀ j bg d m, bg.length = 4 → Bnd d m → Kin fs bg m (fileR fs f j bg d)) (x k : Nat) (bg : List Bool) (d : Db) (m : Nat) (hk : k ≤ (fileDt fs x).size) (hl : bg.length = 4) (hB : Bnd d m) (hw : isWordF (nextF (fileDt fs x) k).1 = true) :
    Kin fs bg (m + 1) (stepR fs f x k bg d).1 ∧ k < (stepR fs f x k bg d).2 ∧ (stepR fs f x k bg d).2 ≤ (fileDt fs x).size := by
  have nl := nextF_le (fileDt fs x) k hk
  have nl2 := nl.2.2 hw
  unfold stepR wordR
  split
  · unfold incR
    split
    · exact ⟨⟨hl, Nat.le_refl _, m, hB, by simp only; omega⟩, nl2, nl.2.1⟩
    · next j z' he =>
      have h2 := IH j bg d m hl hB
      refine ⟨⟨h2.1, h2.2.1, ?_⟩, ?_⟩
      · obtain ⟨m', q1, q2⟩ := h2.2.2; exact ⟨m', q1, by simp only; omega⟩
      · unfold incF at he
        have l1 := nextF_le (fileDt fs x) (nextF (fileDt fs x) k).2 nl.2.1
        have l2 := nextF_le (fileDt fs x) (nextF (fileDt fs x) (nextF (fileDt fs x) k).2).2 l1.2.1
        repeat' split at he
        all_goals first | (cases he; done) | skip
        injection he with he
        injection he with he1 he2
        subst he2
        omega
  · exact ⟨⟨hl, Nat.le_refl _, m + 1, hB.take _ _, by simp only; omega⟩, nl2, nl.2.1⟩

theorem go_kin (fs : List (ByteArray × ByteArray)) (f : Nat) : (∀ x k bg d m, k ≤ (fileDt fs x).size → bg.length = 4 → Bnd d m → (readGo fs f x k bg d).2.1.length = 4 ∧ meas fs (readGo fs f x k bg d).2.1 ≤ meas fs bg ∧ ∃ m', Bnd (readGo fs f x k bg d).2.2 m' ∧ m' + meas fs (readGo fs f x k bg d).2.1 ≤ m + ((fileDt fs x).size - k) + meas fs bg) ∧
    (∀ j bg d m, bg.length = 4 → Bnd d m → Kin fs bg m (fileR fs f j bg d)) := by
  have second : ∀ f, (∀ x k bg d m, k ≤ (fileDt fs x).size → bg.length = 4 → Bnd d m → (readGo fs f x k bg d).2.1.length = 4 ∧ meas fs (readGo fs f x k bg d).2.1 ≤ meas fs bg ∧ ∃ m', Bnd (readGo fs f x k bg d).2.2 m' ∧ m' + meas fs (readGo fs f x k bg d).2.1 ≤ m + ((fileDt fs x).size - k) + meas fs bg) →
      (∀ j bg d m, bg.length = 4 → Bnd d m → Kin fs bg m (fileR fs f j bg d)) := by
    intro f h j bg d m hl hB
    unfold fileR
    split
    · exact ⟨hl, Nat.le_refl _, m, hB, Nat.le_refl _⟩
    · next hb =>
      have hb' : bg.getD j true = false := by simpa using hb
      have hm := meas_set fs bg j hl hb'
      have := h j 0 (bg.set j true) d m (Nat.zero_le _) (by simpa using hl) hB
      refine ⟨this.1, by omega, ?_⟩
      obtain ⟨m', q1, q2⟩ := this.2.2
      exact ⟨m', q1, by omega⟩
  induction f with
  | zero =>
    have h0 : ∀ x k bg d m, k ≤ (fileDt fs x).size → bg.length = 4 → Bnd d m → (readGo fs 0 x k bg d).2.1.length = 4 ∧ meas fs (readGo fs 0 x k bg d).2.1 ≤ meas fs bg ∧ ∃ m', Bnd (readGo fs 0 x k bg d).2.2 m' ∧ m' + meas fs (readGo fs 0 x k bg d).2.1 ≤ m + ((fileDt fs x).size - k) + meas fs bg := by
      intro x k bg d m hk hl hB
      exact ⟨hl, Nat.le_refl _, m, hB, by simp only [readGo]; omega⟩
    exact ⟨h0, second 0 h0⟩
  | succ f ih =>
    have h1 : ∀ x k bg d m, k ≤ (fileDt fs x).size → bg.length = 4 → Bnd d m → (readGo fs (f + 1) x k bg d).2.1.length = 4 ∧ meas fs (readGo fs (f + 1) x k bg d).2.1 ≤ meas fs bg ∧ ∃ m', Bnd (readGo fs (f + 1) x k bg d).2.2 m' ∧ m' + meas fs (readGo fs (f + 1) x k bg d).2.1 ≤ m + ((fileDt fs x).size - k) + meas fs bg := by
      intro x k bg d m hk hl hB
      cases hw : isWordF (nextF (fileDt fs x) k).1 with
      | true =>
        have st := step_kin fs f ih.2 x k bg d m hk hl hB hw
        obtain ⟨⟨s1, s2, m1, s3, s4⟩, s5, s6⟩ := st
        cases h2 : ((stepR fs f x k bg d).1.1.1 == 0) with
        | true =>
          rw [go_on fs f x k bg d hw h2]
          obtain ⟨r1, r2, m2, r3, r4⟩ := ih.1 x (stepR fs f x k bg d).2 (stepR fs f x k bg d).1.2.1 (stepR fs f x k bg d).1.2.2 m1 s6 s1 s3
          exact ⟨r1, by omega, m2, r3, by omega⟩
        | false =>
          rw [go_stop fs f x k bg d hw h2]
          exact ⟨s1, s2, m1, s3, by omega⟩
      | false =>
        by_cases h2 : (nextF (fileDt fs x) k).1.fin = true ∧ openF d = false
        · rw [go_end fs f x k bg d hw h2.1 h2.2]; exact ⟨hl, Nat.le_refl _, m, hB, by simp only; omega⟩
        · rw [go_bad fs f x k bg d hw h2]; exact ⟨hl, Nat.le_refl _, m, hB, by simp only; omega⟩
    exact ⟨h1, second (f + 1) h1⟩

/-- A word of the text is no longer than the text. -/
theorem commentF_text (d : ByteArray) (k : Nat) (hd : d.size ≤ 1024) : (commentF d k).1.text.size ≤ 1024 := by
  unfold commentF
  generalize d.size - k + 1 = f
  induction f generalizing k with
  | zero => simp [commentTo, ByteArray.size]
  | succ f ih =>
    rw [commentTo]
    split
    · split
      · simp [ByteArray.size]
      · exact ih _
    · split
      · simp [ByteArray.size]
      · exact runF_text d k hd
theorem nextF_text (d : ByteArray) (k : Nat) (hd : d.size ≤ 1024) : (nextF d k).1.text.size ≤ 1024 := by
  unfold nextF
  generalize d.size - k + 1 = f
  induction f generalizing k with
  | zero => simp [nextTo, ByteArray.size]
  | succ f ih =>
    rw [nextTo]
    split
    · split
      · exact ih _
      · exact commentF_text d _ hd
    · exact runF_text d k hd

end Go.Proofs.YtcipkfhpcbddiaaGreat

/- Texts: what follows a text turns nothing of it. No walk. -/
namespace Go.Proofs.YtcipkfhpcbddiaaGreat
open Go.RowKit

/-- U begins with T and a line's end. -/
structure Pre (T U : ByteArray) : Prop where
  lt : T.size < U.size
  same : ∀ i, i < T.size → byteAt U i = byteAt T i
  lf : byteAt U T.size = 10

theorem blank10 : blankB 10 = true := by decide

theorem skip_pre {T U : ByteArray} (h : Pre T U) (k : Nat) (hk : k ≤ T.size) : (skip T k < T.size → skip U k = skip T k) ∧ (skip T k = T.size → skip U k = skip U (T.size + 1)) := by
  have hlt := h.lt
  suffices H : ∀ n k, k ≤ T.size → T.size - k = n → (skip T k < T.size → skip U k = skip T k) ∧ (skip T k = T.size → skip U k = skip U (T.size + 1)) from H _ k hk rfl
  intro n
  induction n with
  | zero =>
    intro k hk hn
    have e : k = T.size := by omega
    subst e
    have e1 : skip T T.size = T.size := skip_off T _ (by omega)
    refine ⟨fun h1 => by omega, fun _ => skip_on U _ hlt (by rw [h.lf]; exact blank10)⟩
  | succ n ih =>
    intro k hk hn
    have hkl : k < T.size := by omega
    cases hb : blankB (byteAt T k) with
    | true =>
      rw [skip_on T k hkl hb, skip_on U k (by omega) (by rw [h.same k hkl]; exact hb)]
      exact ih (k + 1) (by omega) (by omega)
    | false =>
      have e1 : skip T k = k := skip_off T k (by simp [hb])
      have e2 : skip U k = k := skip_off U k (by rw [h.same k hkl]; simp [hb])
      rw [e1, e2]
      exact ⟨fun _ => rfl, fun h1 => by omega⟩

theorem word_pre {T U : ByteArray} (h : Pre T U) (k : Nat) (hk : k ≤ T.size) : wordEnd U k = wordEnd T k := by
  have hlt := h.lt
  suffices H : ∀ n k, k ≤ T.size → T.size - k = n → wordEnd U k = wordEnd T k from H _ k hk rfl
  intro n
  induction n with
  | zero =>
    intro k hk hn
    have e : k = T.size := by omega
    subst e
    rw [word_off T _ (by omega), word_off U _ (by rw [h.lf]; simp [blank10])]
  | succ n ih =>
    intro k hk hn
    have hkl : k < T.size := by omega
    by_cases hb : blankB (byteAt T k) = false ∧ plainB (byteAt T k) = true
    · rw [word_on T k hkl hb.1 hb.2, word_on U k (by omega) (by rw [h.same k hkl]; exact hb.1) (by rw [h.same k hkl]; exact hb.2)]
      exact ih (k + 1) (by omega) (by omega)
    · rw [word_off T k (fun hh => hb ⟨hh.2.1, hh.2.2⟩), word_off U k (fun hh => hb (by rw [← h.same k hkl]; exact ⟨hh.2.1, hh.2.2⟩))]

theorem extract_pre {T U : ByteArray} (h : Pre T U) (a z : Nat) (hz : z ≤ T.size) : U.extract a z = T.extract a z := by
  have hlt := h.lt
  apply ByteArray.ext
  apply Array.ext
  · simp; omega
  · intro i h1 h2
    have hi : a + i < T.size := by simp at h2; omega
    have := h.same (a + i) hi
    rw [byteAt_of U _ (by omega), byteAt_of T _ hi] at this
    have e : U[a + i].toNat = T[a + i].toNat := by omega
    have e2 : U[a + i] = T[a + i] := UInt8.toNat_inj.1 e
    simpa [ByteArray.getElem_eq_getElem_data] using e2

theorem skip_skip (d : ByteArray) (k : Nat) (hk : k ≤ d.size) : skip d (skip d k) = skip d k := by
  suffices H : ∀ n k, k ≤ d.size → d.size - k = n → skip d (skip d k) = skip d k from H _ k hk rfl
  intro n
  induction n with
  | zero =>
    intro k hk hn
    have e : skip d k = k := skip_off d k (by omega)
    rw [e, e]
  | succ n ih =>
    intro k hk hn
    by_cases hb : k < d.size ∧ blankB (byteAt d k) = true
    · rw [skip_on d k hb.1 hb.2]; exact ih (k + 1) (by omega) (by omega)
    · rw [skip_off d k hb, skip_off d k hb]

theorem runF_no (d : ByteArray) (k : Nat) (h : d.size ≤ k) (hk : k ≤ d.size) : runF d k = (⟨⟨#[]⟩, 0, true, k⟩, k) := by
  have a := skip_le d k hk
  have b := wordEnd_le d (skip d k) a.2
  have e : skip d k = k := by omega
  have e2 : wordEnd d k = k := by rw [e] at b; omega
  simp only [runF, e, e2]
  rw [if_neg (by omega), if_pos (by omega)]
theorem runF_fin (d : ByteArray) (k : Nat) (h : (runF d k).1.fin = true) : (runF d k).1.rule = 0 := by
  unfold runF at h ⊢
  simp only at h ⊢
  split at h
  · cases h
  · next h1 =>
    rw [if_neg h1]
    split at h
    · next h2 => rw [if_pos h2]
    · cases h

/-- The four shapes of what 'run' tells. -/
theorem runF_cases (d : ByteArray) (k : Nat) (hk : k ≤ d.size) :
    (∃ z, z < d.size ∧ wordEnd d (skip d k) = z ∧ blankB (byteAt d z) = false ∧ runF d k = (⟨⟨#[]⟩, 1, false, z⟩, z)) ∨
    (skip d k = d.size ∧ runF d k = (⟨⟨#[]⟩, 0, true, d.size⟩, d.size)) ∨
    (∃ z, skip d k < z ∧ z ≤ d.size ∧ wordEnd d (skip d k) = z ∧ ¬ (z < d.size ∧ blankB (byteAt d z) = false) ∧ runF d k = (⟨d.extract (skip d k) z, 0, false, skip d k⟩, z)) := by
  have a := skip_le d k hk
  have b := wordEnd_le d (skip d k) a.2
  by_cases h1 : wordEnd d (skip d k) < d.size ∧ blankB (byteAt d (wordEnd d (skip d k))) = false
  · left
    refine ⟨wordEnd d (skip d k), h1.1, rfl, h1.2, ?_⟩
    simp only [runF]; rw [if_pos h1]
  · by_cases h2 : wordEnd d (skip d k) ≤ skip d k
    · right; left
      have e : wordEnd d (skip d k) = skip d k := by omega
      have es : skip d k = d.size := by
        rcases Nat.lt_or_ge (skip d k) d.size with hl | hl
        · exfalso
          rw [e] at h1
          have hbt : blankB (byteAt d (skip d k)) = true := by
            cases hb : blankB (byteAt d (skip d k)) with
            | true => rfl
            | false => exact absurd ⟨hl, hb⟩ h1
          have e3 := skip_on d (skip d k) hl hbt
          have e4 : skip d (skip d k) = skip d k := skip_skip d k hk
          have := skip_le d (skip d k + 1) (by omega)
          omega
        · omega
      refine ⟨es, ?_⟩
      simp only [runF]; rw [if_neg h1, if_pos h2, e, es]
    · right; right
      refine ⟨wordEnd d (skip d k), by omega, b.2, rfl, h1, ?_⟩
      simp only [runF]; rw [if_neg h1, if_neg h2]

theorem run_pre {T U : ByteArray} (h : Pre T U) (k : Nat) (hk : k ≤ T.size) :
    ((runF T k).1.fin = false → runF U k = runF T k) ∧ ((runF T k).1.fin = true → runF U k = runF U (T.size + 1) ∧ runF T k = (⟨⟨#[]⟩, 0, true, T.size⟩, T.size)) := by
  have hlt := h.lt
  have sp := skip_pre h k hk
  have sl := skip_le T k hk
  rcases runF_cases T k hk with ⟨z, hz, hw, hb, he⟩ | ⟨hs, he⟩ | ⟨z, hz1, hz2, hw, hb, he⟩
  · refine ⟨fun _ => ?_, fun hf => by rw [he] at hf; cases hf⟩
    have a := wordEnd_le T (skip T k) sl.2
    have es : skip U k = skip T k := sp.1 (by omega)
    have ew : wordEnd U (skip T k) = z := (word_pre h _ sl.2).trans hw
    rw [he]
    simp only [runF, es, ew]
    rw [if_pos ⟨by omega, by rw [h.same z hz]; exact hb⟩]
  · refine ⟨fun hf => (by rw [he] at hf; cases hf), fun _ => ⟨?_, he⟩⟩
    have es := sp.2 hs
    simp only [runF, es]
  · refine ⟨fun _ => ?_, fun hf => by rw [he] at hf; cases hf⟩
    have es : skip U k = skip T k := sp.1 (by omega)
    have ew : wordEnd U (skip T k) = z := (word_pre h _ sl.2).trans hw
    rw [he]
    simp only [runF, es, ew]
    have hne : ¬ (z < U.size ∧ blankB (byteAt U z) = false) := by
      rintro ⟨_, hbz⟩
      rcases Nat.lt_or_ge z T.size with hl | hl
      · rw [h.same z hl] at hbz; exact hb ⟨hl, hbz⟩
      · have : z = T.size := by omega
        rw [this, h.lf, blank10] at hbz; cases hbz
    rw [if_neg hne, if_neg (by omega), extract_pre h _ _ hz2]

end Go.Proofs.YtcipkfhpcbddiaaGreat

/- Texts: comments, words, reading. No walk. -/
namespace Go.Proofs.YtcipkfhpcbddiaaGreat
open Go.RowKit

theorem commentF_fin (d : ByteArray) (k : Nat) : (commentF d k).1.fin = false := by
  unfold commentF
  generalize d.size - k + 1 = f
  induction f generalizing k with
  | zero => rfl
  | succ f ih =>
    rw [commentTo]
    split
    · split
      · rfl
      · exact ih _
    · split
      · rfl
      · next h => simpa using h

/-- The shapes of what a comment leaves, one word at a time. -/
theorem comment_cases (d : ByteArray) (k : Nat) (hk : k ≤ d.size) :
    (isWordF (runF d k).1 = true ∧ commentF d k = commentF d (runF d k).2) ∨ ((runF d k).1.fin = false ∧ commentF d k = runF d k) ∨
    ((runF d k).1.fin = false ∧ isWordF (runF d k).1 = true ∧ commentF d k = (⟨⟨#[]⟩, 2, false, (runF d k).1.pos⟩, (runF d k).2)) ∨ (commentF d k).1.rule = 3 := by
  cases hw : isWordF (runF d k).1 with
  | true =>
    have hf : (runF d k).1.fin = false := by have := isWordF_eq hw; rw [this]
    cases hx : ((runF d k).1.text.toList == [36, 41]) with
    | true => exact Or.inr (Or.inl ⟨hf, comment_close d k hw hx⟩)
    | false =>
      cases hy : bracketF (runF d k).1.text with
      | true => exact Or.inr (Or.inr (Or.inl ⟨hf, rfl, comment_nest d k hw hx hy⟩))
      | false => exact Or.inl ⟨rfl, comment_on d k hk hw hx hy⟩
  | false =>
    cases hf : (runF d k).1.fin with
    | true => right; right; right; rw [comment_open d k hw hf]
    | false => exact Or.inr (Or.inl ⟨rfl, comment_bad d k hw hf⟩)

theorem comment_pre {T U : ByteArray} (h : Pre T U) (k : Nat) (hk : k ≤ T.size) (h3 : (commentF T k).1.rule ≠ 3) : commentF U k = commentF T k := by
  have hlt := h.lt
  suffices H : ∀ n k, k ≤ T.size → T.size - k ≤ n → (commentF T k).1.rule ≠ 3 → commentF U k = commentF T k from H _ k hk (Nat.le_refl _) h3
  clear hk h3 k
  intro n
  induction n with
  | zero =>
    intro k hk hn h3
    exfalso
    apply h3
    have e : k = T.size := by omega
    subst e
    have hr : runF T T.size = (⟨⟨#[]⟩, 0, true, T.size⟩, T.size) := runF_no T T.size (Nat.le_refl _) (Nat.le_refl _)
    rw [comment_open T T.size (by rw [hr]; rfl) (by rw [hr])]
  | succ n ih =>
    intro k hk hn h3
    have rp := run_pre h k hk
    have rl := runF_le T k hk
    cases hf : (runF T k).1.fin with
    | true =>
      exfalso; apply h3
      have e := (rp.2 hf).2
      rw [comment_open T k (by rw [e]; rfl) hf]
    | false =>
      have er := rp.1 hf
      cases hw : isWordF (runF T k).1 with
      | true =>
        have rl2 := rl.2.2 hw
        cases hx : ((runF T k).1.text.toList == [36, 41]) with
        | true => rw [comment_close T k hw hx, comment_close U k (by rw [er]; exact hw) (by rw [er]; exact hx), er]
        | false =>
          cases hy : bracketF (runF T k).1.text with
          | true => rw [comment_nest T k hw hx hy, comment_nest U k (by rw [er]; exact hw) (by rw [er]; exact hx) (by rw [er]; exact hy), er]
          | false =>
            rw [comment_on T k hk hw hx hy] at h3 ⊢
            rw [comment_on U k (by omega) (by rw [er]; exact hw) (by rw [er]; exact hx) (by rw [er]; exact hy), er]
            exact ih _ rl.2.1 (by omega) h3
      | false => rw [comment_bad T k hw hf, comment_bad U k (by rw [er]; exact hw) (by rw [er]; exact hf), er]

/-- What comes next hangs on what 'run' tells alone. -/
theorem next_congr (d : ByteArray) (k j : Nat) (hk : k ≤ d.size) (hj : j ≤ d.size) (h : runF d k = runF d j) : nextF d k = nextF d j := by
  obtain ⟨f, hf⟩ : ∃ f, f = d.size + 1 := ⟨_, rfl⟩
  rw [← nextTo_fuel d (f + 1) k hk (by omega), ← nextTo_fuel d (f + 1) j hj (by omega), nextTo, nextTo, h]

theorem next_pre {T U : ByteArray} (h : Pre T U) (k : Nat) (hk : k ≤ T.size) (h3 : (nextF T k).1.rule ≠ 3) :
    ((nextF T k).1.fin = false → nextF U k = nextF T k) ∧ ((nextF T k).1.fin = true → nextF U k = nextF U (T.size + 1)) := by
  have hlt := h.lt
  suffices H : ∀ n k, k ≤ T.size → T.size - k ≤ n → (nextF T k).1.rule ≠ 3 → ((nextF T k).1.fin = false → nextF U k = nextF T k) ∧ ((nextF T k).1.fin = true → nextF U k = nextF U (T.size + 1)) from H _ k hk (Nat.le_refl _) h3
  clear hk h3 k
  intro n
  induction n with
  | zero =>
    intro k hk hn h3
    have e : k = T.size := by omega
    subst e
    have hr : runF T T.size = (⟨⟨#[]⟩, 0, true, T.size⟩, T.size) := runF_no T T.size (Nat.le_refl _) (Nat.le_refl _)
    have hn' : nextF T T.size = runF T T.size := next_plain T _ (Or.inl (by rw [hr]; rfl))
    rw [hn', hr]
    exact ⟨fun hf => (by cases hf), fun _ => next_congr U _ _ (by omega) (by omega) ((run_pre h T.size (Nat.le_refl _)).2 (by rw [hr])).1⟩
  | succ n ih =>
    intro k hk hn h3
    have rp := run_pre h k hk
    have rl := runF_le T k hk
    cases hf : (runF T k).1.fin with
    | true =>
      have hr := (rp.2 hf).2
      have hn' : nextF T k = runF T k := next_plain T _ (Or.inl (by rw [hr]; rfl))
      rw [hn']
      refine ⟨fun hf' => ?_, fun _ => next_congr U _ _ (by omega) (by omega) (rp.2 hf).1⟩
      rw [hf] at hf'; cases hf'
    | false =>
      have er := rp.1 hf
      by_cases hc : isWordF (runF T k).1 = true ∧ ((runF T k).1.text.toList == [36, 40]) = true
      · have rl2 := rl.2.2 hc.1
        cases hcw : isWordF (commentF T (runF T k).2).1 with
        | true =>
          have c3 : (commentF T (runF T k).2).1.rule ≠ 3 := by rw [isWordF_eq hcw]; simp
          have ec := comment_pre h (runF T k).2 rl.2.1 c3
          have cl := commentF_le T (runF T k).2 rl.2.1
          rw [next_on T k hk hc.1 hc.2 hcw] at h3 ⊢
          rw [next_on U k (by omega) (by rw [er]; exact hc.1) (by rw [er]; exact hc.2) (by rw [er, ec]; exact hcw), er, ec]
          exact ih _ cl.2 (by omega) h3
        | false =>
          rw [next_broken T k hc.1 hc.2 hcw] at h3 ⊢
          have ec := comment_pre h (runF T k).2 rl.2.1 h3
          refine ⟨fun _ => ?_, fun hf' => ?_⟩
          · rw [next_broken U k (by rw [er]; exact hc.1) (by rw [er]; exact hc.2) (by rw [er, ec]; exact hcw), er, ec]
          · rw [commentF_fin] at hf'; cases hf'
      · have hc' : isWordF (runF T k).1 = false ∨ ((runF T k).1.text.toList == [36, 40]) = false := by
          cases h1 : isWordF (runF T k).1 with
          | false => exact Or.inl rfl
          | true =>
            cases h2 : ((runF T k).1.text.toList == [36, 40]) with
            | false => exact Or.inr rfl
            | true => exact absurd ⟨h1, h2⟩ hc
        rw [next_plain T k hc']
        refine ⟨fun _ => ?_, fun hf' => ?_⟩
        · rw [next_plain U k (by rw [er]; exact hc'), er]
        · rw [hf] at hf'; cases hf'

theorem nextF_fin (d : ByteArray) (k : Nat) (h : (nextF d k).1.fin = true) : (nextF d k).1.rule = 0 := by
  unfold nextF at h ⊢
  generalize d.size - k + 1 = f at h ⊢
  induction f generalizing k with
  | zero => rfl
  | succ f ih =>
    rw [nextTo] at h ⊢
    split at h
    · next h1 =>
      rw [if_pos h1]
      split at h
      · next h2 => rw [if_pos h2]; exact ih _ h
      · rw [commentF_fin] at h; cases h
    · next h1 => rw [if_neg h1]; exact runF_fin d k h

theorem runF_pos (d : ByteArray) (k : Nat) (hk : k ≤ d.size) : k ≤ (runF d k).1.pos ∧ (runF d k).1.pos ≤ d.size := by
  have a := skip_le d k hk
  have b := wordEnd_le d (skip d k) a.2
  rcases runF_cases d k hk with ⟨z, hz, hw, _, he⟩ | ⟨hs, he⟩ | ⟨z, hz1, hz2, hw, _, he⟩
  · rw [he]; simp only; omega
  · rw [he]; simp only; omega
  · rw [he]; simp only; omega
theorem commentF_pos (d : ByteArray) (k : Nat) (hk : k ≤ d.size) : k ≤ (commentF d k).1.pos ∧ (commentF d k).1.pos ≤ d.size := by
  unfold commentF
  generalize d.size - k + 1 = f
  induction f generalizing k with
  | zero => simp [commentTo, hk]
  | succ f ih =>
    have rp := runF_pos d k hk
    have rl := runF_le d k hk
    rw [commentTo]
    split
    · split
      · exact rp
      · have := ih (runF d k).2 rl.2.1; omega
    · split
      · exact rp
      · exact rp
theorem nextF_pos (d : ByteArray) (k : Nat) (hk : k ≤ d.size) : k ≤ (nextF d k).1.pos ∧ (nextF d k).1.pos ≤ d.size := by
  unfold nextF
  generalize d.size - k + 1 = f
  induction f generalizing k with
  | zero => simp [nextTo, hk]
  | succ f ih =>
    have rp := runF_pos d k hk
    have rl := runF_le d k hk
    rw [nextTo]
    split
    · have cl := commentF_le d (runF d k).2 rl.2.1
      have cp := commentF_pos d (runF d k).2 rl.2.1
      split
      · have := ih _ cl.2; omega
      · omega
    · exact rp
theorem line_mono (s : ByteArray) (i j : Nat) (h : i ≤ j) : lineAt s i ≤ lineAt s j := by
  induction j with
  | zero => have : i = 0 := by omega
            subst this; omega
  | succ j ih =>
    by_cases e : i = j + 1
    · subst e; omega
    · have := ih (by omega)
      rw [lineAt]; split <;> omega
theorem line_pre {T U : ByteArray} (h : Pre T U) (k : Nat) (hk : k ≤ T.size) : lineAt U k = lineAt T k ∧ colAt U k = colAt T k := by
  induction k with
  | zero => exact ⟨rfl, rfl⟩
  | succ k ih =>
    have i := ih (by omega)
    rw [lineAt, lineAt, colAt, colAt, h.same k (by omega), i.1, i.2]
    exact ⟨rfl, rfl⟩

theorem readF_pos (n s : ByteArray) (k : Nat) (d : Db) (hk : k ≤ s.size) (h : (readF n s k d).1.1 ≠ 0) : k ≤ (readF n s k d).1.2 ∧ (readF n s k d).1.2 ≤ s.size := by
  unfold readF at h ⊢
  generalize s.size - k + 1 = f at h ⊢
  induction f generalizing k d with
  | zero => simp [readTo] at h
  | succ f ih =>
    have np := nextF_pos s k hk
    have nl := nextF_le s k hk
    rw [readTo] at h ⊢
    split at h
    · next h1 =>
      rw [if_pos h1]
      split at h
      · next h2 =>
        rw [if_pos h2]
        have := ih _ _ nl.2.1 h
        omega
      · next h2 => rw [if_neg h2]; exact np
    · next h1 =>
      rw [if_neg h1]
      split at h
      · next h2 =>
        rw [if_pos h2]
        split at h
        · simp at h
        · next h3 => rw [if_neg h3]; exact np
      · next h2 => rw [if_neg h2]; exact np

theorem plAt_pre {T U : ByteArray} (h : Pre T U) (n : ByteArray) (p : Nat) (hp : p ≤ T.size) : plAt n U p = plAt n T p := by
  unfold plAt; rw [(line_pre h p hp).1, (line_pre h p hp).2]

theorem read_congr (n s : ByteArray) (k j : Nat) (d : Db) (hk : k ≤ s.size) (hj : j ≤ s.size) (h : nextF s k = nextF s j) : readF n s k d = readF n s j d := by
  obtain ⟨f, hf⟩ : ∃ f, f = s.size + 1 := ⟨_, rfl⟩
  rw [← readTo_fuel n s (f + 1) k d hk (by omega), ← readTo_fuel n s (f + 1) j d hj (by omega), readTo, readTo, h]

/-- A text without a fault, and what follows it: the reading goes on behind it. -/
theorem read_pre {T U : ByteArray} (h : Pre T U) (nm : ByteArray) (k : Nat) (d : Db) (hk : k ≤ T.size) (h0 : (readF nm T k d).1.1 = 0) : openF (readF nm T k d).2 = false ∧ readF nm U k d = readF nm U (T.size + 1) (readF nm T k d).2 := by
  have hlt := h.lt
  suffices H : ∀ n k d, k ≤ T.size → T.size - k ≤ n → (readF nm T k d).1.1 = 0 → openF (readF nm T k d).2 = false ∧ readF nm U k d = readF nm U (T.size + 1) (readF nm T k d).2 from H _ k d hk (Nat.le_refl _) h0
  clear hk h0 k d
  intro n
  induction n with
  | zero =>
    intro k d hk hn h0
    have e : k = T.size := by omega
    subst e
    have hr : runF T T.size = (⟨⟨#[]⟩, 0, true, T.size⟩, T.size) := runF_no T T.size (Nat.le_refl _) (Nat.le_refl _)
    have hn' : nextF T T.size = runF T T.size := next_plain T _ (Or.inl (by rw [hr]; rfl))
    have np := next_pre h T.size (Nat.le_refl _) (by rw [hn', hr]; simp)
    have hw : isWordF (nextF T T.size).1 = false := by rw [hn', hr]; rfl
    have hf : (nextF T T.size).1.fin = true := by rw [hn', hr]
    cases ho : openF d with
    | true => rw [read_open nm T _ d hw hf ho] at h0; simp at h0
    | false => rw [read_end nm T _ d hw hf ho]; exact ⟨ho, read_congr nm U _ _ d (by omega) (by omega) (np.2 hf)⟩
  | succ n ih =>
    intro k d hk hn h0
    have nl := nextF_le T k hk
    cases hw : isWordF (nextF T k).1 with
    | true =>
      have np := next_pre h k hk (by rw [isWordF_eq hw]; simp)
      have hf : (nextF T k).1.fin = false := by rw [isWordF_eq hw]
      have en := np.1 hf
      have nl2 := nl.2.2 hw
      have ep := plAt_pre h nm (nextF T k).1.pos (nextF_pos T k hk).2
      cases ht : ((takeF d (nextF T k).1.text (plAt nm T (nextF T k).1.pos)).1 == 0) with
      | true =>
        rw [read_on nm T k d hk hw ht] at h0 ⊢
        rw [read_on nm U k d (by omega) (by rw [en]; exact hw) (by rw [en, ep]; exact ht), en, ep]
        exact ih _ _ nl.2.1 (by omega) h0
      | false =>
        rw [read_rule nm T k d hw ht] at h0
        simp only at h0
        rw [h0] at ht; simp at ht
    | false =>
      cases hf : (nextF T k).1.fin with
      | true =>
        cases ho : openF d with
        | true => rw [read_open nm T k d hw hf ho] at h0; simp at h0
        | false =>
          have h3 : (nextF T k).1.rule ≠ 3 := by rw [nextF_fin T k hf]; simp
          rw [read_end nm T k d hw hf ho]
          exact ⟨ho, read_congr nm U _ _ d (by omega) (by omega) ((next_pre h k hk h3).2 hf)⟩
      | false =>
        rw [read_bad nm T k d hw hf] at h0
        have := isWordF_not hw hf
        simp only at h0
        rw [h0] at this; simp at this

end Go.Proofs.YtcipkfhpcbddiaaGreat

/- Texts: places, inclusions. No walk. -/
namespace Go.Proofs.YtcipkfhpcbddiaaGreat
open Go.RowKit

/-- Is the word that begins an inclusion somewhere in s? -/
def incAt (s : ByteArray) (i : Nat) : Bool := (s.extract i (i + 2)).toList == [36, 91]
def holdsF (s : ByteArray) : Bool := (List.range s.size).any (fun i => decide (i + 2 ≤ s.size) && incAt s i)

theorem byteAt_append_left (a b : ByteArray) (i : Nat) (h : i < a.size) : byteAt (a ++ b) i = byteAt a i := by
  have h2 : i < (a ++ b).size := by rw [ByteArray.size_append]; omega
  rw [byteAt_of _ _ h2, byteAt_of _ _ h, ByteArray.getElem_append_left h]
theorem byteAt_append_right (a b : ByteArray) (i : Nat) (h : i < b.size) : byteAt (a ++ b) (a.size + i) = byteAt b i := by
  have h2 : a.size + i < (a ++ b).size := by rw [ByteArray.size_append]; omega
  rw [byteAt_of _ _ h2, byteAt_of _ _ h, ByteArray.getElem_append_right (by omega)]
  simp

theorem lf_size : (⟨#[10]⟩ : ByteArray).size = 1 := rfl
theorem pre_of (T c : ByteArray) : Pre T (T ++ ⟨#[10]⟩ ++ c) := by
  have s1 : (T ++ ⟨#[10]⟩).size = T.size + 1 := by rw [ByteArray.size_append, lf_size]
  refine ⟨by rw [ByteArray.size_append, s1]; omega, fun i hi => ?_, ?_⟩
  · rw [byteAt_append_left _ _ _ (by omega), byteAt_append_left _ _ _ hi]
  · rw [byteAt_append_left _ _ _ (by omega)]
    have := byteAt_append_right T ⟨#[10]⟩ 0 (by rw [lf_size]; omega)
    rw [Nat.add_zero] at this
    rw [this]; decide +kernel
theorem pre_right (T c : ByteArray) (i : Nat) (h : i < c.size) : byteAt (T ++ ⟨#[10]⟩ ++ c) (T.size + 1 + i) = byteAt c i := by
  have s1 : (T ++ ⟨#[10]⟩).size = T.size + 1 := by rw [ByteArray.size_append, lf_size]
  have := byteAt_append_right (T ++ ⟨#[10]⟩) c i h
  rw [s1] at this; exact this

theorem extract_two (s : ByteArray) (i : Nat) (h : i + 2 ≤ s.size) : (s.extract i (i + 2)).toList = [s[i], s[i + 1]] := by
  rw [ByteArray.toList_eq]
  have h1 : i + 2 ≤ s.data.toList.length := h
  have e : (s.extract i (i + 2)).data.toList = (s.data.toList.drop i).take 2 := by
    simp [ByteArray.data_extract, Array.toList_extract]
  rw [e, List.drop_eq_getElem_cons (by omega), List.drop_eq_getElem_cons (by omega)]
  simp [ByteArray.getElem_eq_getElem_data]
theorem incAt_iff (s : ByteArray) (i : Nat) (h : i + 2 ≤ s.size) : incAt s i = true ↔ byteAt s i = 36 ∧ byteAt s (i + 1) = 91 := by
  unfold incAt
  rw [extract_two s i h, byteAt_of s i (by omega), byteAt_of s (i + 1) (by omega)]
  simp only [beq_iff_eq, List.cons.injEq, and_true]
  constructor
  · rintro ⟨a, b⟩; rw [a, b]; exact ⟨rfl, rfl⟩
  · rintro ⟨a, b⟩
    exact ⟨UInt8.toNat_inj.1 (by show _ = 36; omega), UInt8.toNat_inj.1 (by show _ = 91; omega)⟩
theorem holds_iff (s : ByteArray) : holdsF s = false ↔ ∀ i, i + 2 ≤ s.size → ¬ (byteAt s i = 36 ∧ byteAt s (i + 1) = 91) := by
  constructor
  · intro h i hi hb
    have : holdsF s = true := any_yes i (by omega) (by simp [hi, (incAt_iff s i hi).2 hb])
    rw [h] at this; cases this
  · intro h
    refine any_no (fun i hi => ?_)
    by_cases h2 : i + 2 ≤ s.size
    · cases hc : incAt s i with
      | true => exact absurd ((incAt_iff s i h2).1 hc) (h i h2)
      | false => simp
    · simp [h2]

theorem holds_more (T c : ByteArray) (h1 : holdsF T = false) (h2 : holdsF c = false) : holdsF (T ++ ⟨#[10]⟩ ++ c) = false := by
  have p := pre_of T c
  have sz : (T ++ ⟨#[10]⟩ ++ c).size = T.size + 1 + c.size := by rw [ByteArray.size_append, ByteArray.size_append, lf_size]
  rw [holds_iff] at h1 h2 ⊢
  rintro i hi ⟨ha, hb⟩
  rcases Nat.lt_or_ge (i + 1) T.size with hl | hl
  · exact h1 i (by omega) ⟨by rw [← p.same i (by omega)]; exact ha, by rw [← p.same (i + 1) hl]; exact hb⟩
  · rcases Nat.lt_or_ge i T.size with hl2 | hl2
    · have : i + 1 = T.size := by omega
      rw [this, p.lf] at hb; omega
    · rcases Nat.lt_or_ge T.size i with hl3 | hl3
      · obtain ⟨j, rfl⟩ : ∃ j, i = T.size + 1 + j := ⟨i - (T.size + 1), by omega⟩
        rw [pre_right T c j (by omega)] at ha
        rw [show T.size + 1 + j + 1 = T.size + 1 + (j + 1) by omega, pre_right T c (j + 1) (by omega)] at hb
        exact h2 j (by omega) ⟨ha, hb⟩
      · have : i = T.size := by omega
        rw [this, p.lf] at ha; omega

/-- A word is a cut of the text. -/
theorem nextF_cut (d : ByteArray) (k : Nat) (hk : k ≤ d.size) (h : isWordF (nextF d k).1 = true) : ∃ a z, z ≤ d.size ∧ (nextF d k).1.text = d.extract a z := by
  unfold nextF at h ⊢
  generalize d.size - k + 1 = f at h ⊢
  induction f generalizing k with
  | zero => simp [nextTo, isWordF] at h
  | succ f ih =>
    have rl := runF_le d k hk
    have cl := commentF_le d (runF d k).2 rl.2.1
    rw [nextTo] at h ⊢
    split at h
    · next h1 =>
      rw [if_pos h1]
      split at h
      · next h2 => rw [if_pos h2]; exact ih _ cl.2 h
      · next h2 => exact absurd h h2
    · next h1 =>
      rw [if_neg h1]
      rcases runF_cases d k hk with ⟨z, _, _, _, he⟩ | ⟨_, he⟩ | ⟨z, _, hz2, _, _, he⟩
      · rw [he] at h; simp [isWordF] at h
      · rw [he] at h; simp [isWordF] at h
      · rw [he]; exact ⟨_, z, hz2, rfl⟩

theorem noInc_of (T : ByteArray) (h : holdsF T = false) : NoInc T := by
  intro k hk hw
  obtain ⟨a, z, hz, ht⟩ := nextF_cut T k hk hw
  rw [ht]
  cases hc : ((T.extract a z).toList == [36, 91]) with
  | false => rfl
  | true =>
    exfalso
    have hl : (T.extract a z).toList = [36, 91] := by simpa using hc
    have hlen : (T.extract a z).toList.length = 2 := by rw [hl]; rfl
    have hsz : (T.extract a z).size = 2 := by rw [ByteArray.toList_eq] at hlen; exact hlen
    have e : z = a + 2 := by simp at hsz; omega
    subst e
    have : incAt T a = true := by unfold incAt; exact hc
    exact (holds_iff T).1 h a hz ((incAt_iff T a hz).1 this)

def mName : ByteArray := ⟨#[109]⟩
/-- What is said of the file m with this text, alone. -/
def rdM (T : ByteArray) : (Int × Nat) × Db := readF ⟨#[109]⟩ T 0 emptyDb
/-- A text that is well-formed, without inclusions, and fits. -/
structure Fine (T : ByteArray) : Prop where
  size : T.size ≤ 1024
  ok : (rdM T).1.1 = 0
  inc : holdsF T = false
theorem fine_empty : Fine ⟨#[]⟩ := ⟨by decide, by decide +kernel, by decide +kernel⟩
theorem more_line (T c : ByteArray) (hT : Fine T) (hne : (rdM (T ++ ⟨#[10]⟩ ++ c)).1.1 ≠ 0) : lineAt T T.size + 1 ≤ lineAt (T ++ ⟨#[10]⟩ ++ c) (rdM (T ++ ⟨#[10]⟩ ++ c)).1.2 := by
  have pr := pre_of T c
  have he := (read_pre pr ⟨#[109]⟩ 0 emptyDb (Nat.zero_le _) hT.ok).2
  unfold rdM at hne ⊢
  rw [he] at hne ⊢
  have hz : T.size + 1 ≤ (T ++ ⟨#[10]⟩ ++ c).size := pr.lt
  have hp := readF_pos ⟨#[109]⟩ (T ++ ⟨#[10]⟩ ++ c) (T.size + 1) _ hz hne
  have m := line_mono (T ++ ⟨#[10]⟩ ++ c) (T.size + 1) _ hp.1
  have l1 : lineAt (T ++ ⟨#[10]⟩ ++ c) (T.size + 1) = lineAt T T.size + 1 := by
    rw [lineAt, pr.lf, (line_pre pr T.size (Nat.le_refl _)).1]; simp
  omega

end Go.Proofs.YtcipkfhpcbddiaaGreat

/- Texts: a fault that is not at the end stays the fault. No walk. -/
namespace Go.Proofs.YtcipkfhpcbddiaaGreat
open Go.RowKit

theorem read_stay {T U : ByteArray} (h : Pre T U) (nm : ByteArray) (k : Nat) (d : Db) (r : Int) (p : Nat) (hk : k ≤ T.size) (hr : (readF nm T k d).1 = (r, p)) (h0 : r ≠ 0) (h7 : r ≠ 7) (h3 : r ≠ 3) : (readF nm U k d).1 = (r, p) := by
  have hlt := h.lt
  suffices H : ∀ n k d, k ≤ T.size → T.size - k ≤ n → (readF nm T k d).1 = (r, p) → (readF nm U k d).1 = (r, p) from H _ k d hk (Nat.le_refl _) hr
  clear hk hr k d
  intro n
  induction n with
  | zero =>
    intro k d hk hn hr
    have e : k = T.size := by omega
    subst e
    have e1 : runF T T.size = (⟨⟨#[]⟩, 0, true, T.size⟩, T.size) := runF_no T T.size (Nat.le_refl _) (Nat.le_refl _)
    have hn' : nextF T T.size = runF T T.size := next_plain T _ (Or.inl (by rw [e1]; rfl))
    have hw : isWordF (nextF T T.size).1 = false := by rw [hn', e1]; rfl
    have hf : (nextF T T.size).1.fin = true := by rw [hn', e1]
    cases ho : openF d with
    | true => rw [read_open nm T _ d hw hf ho] at hr; exact absurd (Prod.mk.inj hr).1.symm h7
    | false => rw [read_end nm T _ d hw hf ho] at hr; exact absurd (Prod.mk.inj hr).1.symm h0
  | succ n ih =>
    intro k d hk hn hr
    have nl := nextF_le T k hk
    cases hw : isWordF (nextF T k).1 with
    | true =>
      have np := next_pre h k hk (by rw [isWordF_eq hw]; simp)
      have hf : (nextF T k).1.fin = false := by rw [isWordF_eq hw]
      have en := np.1 hf
      have nl2 := nl.2.2 hw
      have ep := plAt_pre h nm (nextF T k).1.pos (nextF_pos T k hk).2
      cases ht : ((takeF d (nextF T k).1.text (plAt nm T (nextF T k).1.pos)).1 == 0) with
      | true =>
        rw [read_on nm T k d hk hw ht] at hr
        rw [read_on nm U k d (by omega) (by rw [en]; exact hw) (by rw [en, ep]; exact ht), en, ep]
        exact ih _ _ nl.2.1 (by omega) hr
      | false =>
        rw [read_rule nm T k d hw ht] at hr
        rw [read_rule nm U k d (by rw [en]; exact hw) (by rw [en, ep]; exact ht), en, ep]
        exact hr
    | false =>
      cases hf : (nextF T k).1.fin with
      | true =>
        cases ho : openF d with
        | true => rw [read_open nm T k d hw hf ho] at hr; exact absurd (Prod.mk.inj hr).1.symm h7
        | false => rw [read_end nm T k d hw hf ho] at hr; exact absurd (Prod.mk.inj hr).1.symm h0
      | false =>
        rw [read_bad nm T k d hw hf] at hr
        have en := (next_pre h k hk (by rw [(Prod.mk.inj hr).1]; exact h3)).1 hf
        rw [read_bad nm U k d (by rw [en]; exact hw) (by rw [en]; exact hf), en]
        exact hr

theorem holds_parts (a b : ByteArray) (h : holdsF (a ++ b) = false) : holdsF a = false ∧ holdsF b = false := by
  have sz : (a ++ b).size = a.size + b.size := ByteArray.size_append
  rw [holds_iff] at h
  constructor
  · rw [holds_iff]
    rintro i hi ⟨h1, h2⟩
    exact h i (by omega) ⟨by rw [byteAt_append_left _ _ _ (by omega)]; exact h1, by rw [byteAt_append_left _ _ _ (by omega)]; exact h2⟩
  · rw [holds_iff]
    rintro i hi ⟨h1, h2⟩
    exact h (a.size + i) (by omega) ⟨by rw [byteAt_append_right _ _ _ (by omega)]; exact h1, by rw [show a.size + i + 1 = a.size + (i + 1) by omega, byteAt_append_right _ _ _ (by omega)]; exact h2⟩

/-- All that the walk of 'stay' is told. -/
theorem stay_texts (t b : ByteArray) (h0 : ((rdM t).1.1 == 0) = false) (h7 : ((rdM t).1.1 != 7) = true) (h3 : ((rdM t).1.1 != 3) = true) :
    (rdM (t ++ ⟨#[10]⟩ ++ b)).1 = (rdM t).1 ∧ lineAt (t ++ ⟨#[10]⟩ ++ b) (rdM t).1.2 = lineAt t (rdM t).1.2 ∧ colAt (t ++ ⟨#[10]⟩ ++ b) (rdM t).1.2 = colAt t (rdM t).1.2 := by
  have h0' : (rdM t).1.1 ≠ 0 := by simpa using h0
  have pr := pre_of t b
  have hp := readF_pos ⟨#[109]⟩ t 0 emptyDb (Nat.zero_le _) h0'
  have lp := line_pre pr _ hp.2
  exact ⟨read_stay pr ⟨#[109]⟩ 0 emptyDb _ _ (Nat.zero_le _) rfl h0' (by simpa using h7) (by simpa using h3), lp.1, lp.2⟩

end Go.Proofs.YtcipkfhpcbddiaaGreat
