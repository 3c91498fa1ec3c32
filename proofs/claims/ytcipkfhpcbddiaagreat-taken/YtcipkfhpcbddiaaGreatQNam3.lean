import Derived.Test.YtcipkfhpcbddiaaGreatQNam2
import Derived.Test.YtcipkfhpcbddiaaGreatQFm1
/- The lines of a frame, read as a form: what a record of names gives. No walk. -/
namespace Go.Proofs.YtcipkfhpcbddiaaGreat
open Go.RowKit

/-- A word that is not long. -/
def WdS (x : ByteArray) : Prop := Wd x ∧ x.size ≤ 1024
theorem rdM_nmS (T : ByteArray) (hT : T.size ≤ 1024) : Nm WdS (rdM T).2 := readTo_nm _ T (fun k hk h hd => ⟨nextF_wd T k hk h hd, nextF_text T k hT⟩) _ 0 _ (Nat.zero_le _) Nm.empty
theorem Nm.szs {d : Db} (h : Nm WdS d) : SzsOk d.sts := by
  intro s hs hk
  have hso := h.sts s hs
  have hl := hso.lab (hso.kind.resolve_left hk)
  exact ⟨by have := hl.1.2; omega, fun x hx => by have := (hso.syms x hx).2; omega⟩
theorem isD_of (a : ByteArray) (r : List ByteArray) (h : Wd a) : isD (a :: r) = false := h.notKey 100
theorem isD_pair (r : List ByteArray) : isD (⟨#[36, 100]⟩ :: r) = true := by
  show ((⟨#[36, 100]⟩ : ByteArray).toList == [36, 100]) = true
  rw [ByteArray.toList_eq]; rfl
theorem key_of (a : ByteArray) (k : Int) (r : List ByteArray) (c : UInt8) : isKey (a :: keyF k :: r) c = ((keyF k).toList == [36, c]) := rfl
theorem keyF_2 : keyF 2 = ⟨#[36, 102]⟩ := rfl
theorem keyF_3 : keyF 3 = ⟨#[36, 101]⟩ := rfl
theorem keyF_4 : keyF 4 = ⟨#[36, 97]⟩ := rfl
theorem keyF_5 : keyF 5 = ⟨#[36, 112]⟩ := rfl
theorem tl2 (c : UInt8) : (⟨#[36, c]⟩ : ByteArray).toList = [36, c] := by rw [ByteArray.toList_eq]
/-- A statement of the record as a line's words. -/
structure StW (s : St) : Prop where
  lab : Wd s.label
  syms : ∀ x ∈ s.symbols, Wd x
  pos : 0 < s.symbols.length
  two : s.kind = 2 → s.symbols.length = 2
  sz : (lineF s).size ≤ 1073741824
theorem Nm.stw {d : Db} (h : Nm WdS d) (hl : ∀ s ∈ d.sts, s.symbols.length ≤ 10000) (s : St) (hs : s ∈ d.sts) (hk : s.kind ≠ 1) : StW s := by
  have hso := h.sts s hs
  have hk2 := hso.kind.resolve_left hk
  obtain ⟨c, r, hc, -⟩ := hso.code hk2
  refine ⟨(hso.lab hk2).1.1, fun x hx => (hso.syms x hx).1, by rw [hc]; simp, hso.two, ?_⟩
  have := lineTo_size s (h.szs s hs hk) s.symbols.length (Nat.le_refl _)
  have hlen := hl s hs
  unfold lineF
  omega
theorem StW.split {s : St} (h : StW s) : splitF (lineF s) = s.label :: keyF s.kind :: s.symbols := split_line s h.lab.noBl (fun x hx => (h.syms x hx).noBl)

theorem pair_split (p : Pr) (h1 : NoBl p.1) (h2 : NoBl p.2) : splitF (pairLine p) = [⟨#[36, 100]⟩, p.1, p.2] := by
  have e : pairLine p = ⟨#[36, 100]⟩ ++ (⟨#[32]⟩ ++ p.1) ++ (⟨#[32]⟩ ++ p.2) := by
    unfold pairLine
    have e0 : (⟨#[36, 100, 32]⟩ : ByteArray) = ⟨#[36, 100]⟩ ++ ⟨#[32]⟩ := by decide +kernel
    rw [e0]
    simp only [ByteArray.append_assoc]
  rw [e, split_more _ _ h2, split_more _ _ h1, split_one]
  · rfl
  · intro i hi
    have h2 : i < 2 := hi
    match i, h2 with
    | 0, _ => decide +kernel
    | 1, _ => decide +kernel

theorem line_ok_hyp {s : St} (h : StW s) (hk : s.kind = 2 ∨ s.kind = 3) (lab : ByteArray) (last : Bool) : LineOk lab last (lineF s) := by
  have hs := h.split
  refine ⟨h.sz, by rw [hs]; have := h.pos; simp; omega, Or.inr ⟨by rw [hs]; exact isD_of _ _ h.lab, ?_⟩⟩
  rw [hs]
  simp only [key_of]
  rcases hk with hk | hk
  · left
    rw [hk, keyF_2, tl2]
    exact ⟨rfl, by have := h.two hk; simp [this]⟩
  · right
    rw [hk, keyF_3, tl2]
    exact ⟨by decide, Or.inl rfl⟩
theorem line_ok_own {s : St} (h : StW s) (hk : isA s.kind = true) (lab : ByteArray) (hl : s.label.toList = lab.toList) : LineOk lab true (lineF s) := by
  have hs := h.split
  refine ⟨h.sz, by rw [hs]; have := h.pos; simp; omega, Or.inr ⟨by rw [hs]; exact isD_of _ _ h.lab, Or.inr ?_⟩⟩
  rw [hs]
  simp only [key_of]
  have hk' : s.kind = 4 ∨ s.kind = 5 := by unfold isA at hk; simpa using hk
  rcases hk' with hk' | hk' <;> rw [hk']
  · rw [keyF_4, tl2]
    exact ⟨by decide, Or.inr ⟨by decide, Or.inl rfl, by show (s.label.toList == lab.toList) = true; rw [hl]; simp, by simp⟩⟩
  · rw [keyF_5, tl2]
    exact ⟨by decide, Or.inr ⟨by decide, Or.inr rfl, by show (s.label.toList == lab.toList) = true; rw [hl]; simp, by simp⟩⟩
theorem line_ok_pair (p : Pr) (h1 : NoBl p.1) (h2 : NoBl p.2) (hz : p.1.size ≤ 100000 ∧ p.2.size ≤ 100000) (lab : ByteArray) (last : Bool) : LineOk lab last (pairLine p) := by
  have hs := pair_split p h1 h2
  refine ⟨?_, by rw [hs]; simp, Or.inl (by rw [hs]; exact isD_pair _)⟩
  unfold pairLine
  simp only [ByteArray.size_append, d3_size, bl_size]
  omega

/-- The frame of an assertion, in a record of names. -/
structure FrOk (l : List St) (a : Nat) : Prop where
  ha : a < l.length
  isa : isA (l[a]'ha).kind = true
  own : StW (l[a]'ha)
  hyp : ∀ n ∈ hypsF l a, ∃ h : n < l.length, StW l[n] ∧ (l[n].kind = 2 ∨ l[n].kind = 3)
  prs : ∀ p ∈ pairsF l a, (NoBl p.1 ∧ NoBl p.2) ∧ p.1.size ≤ 100000 ∧ p.2.size ≤ 100000
theorem noBl_nil : NoBl ⟨#[]⟩ := fun i hi => absurd (show i < 0 from hi) (Nat.not_lt_zero i)
theorem gD_noBl (vs : List ByteArray) (i : Nat) (h : ∀ x ∈ vs, NoBl x) : NoBl (gD vs i) := by
  unfold gD
  rw [List.getD_eq_getElem?_getD]
  cases e : vs[i]? with
  | none => exact noBl_nil
  | some x => exact h x (List.mem_of_getElem? e)
theorem FrOk.of {d : Db} (h : Nm WdS d) (ok : RecOk d.sts) (a : Nat) (ha : a < d.sts.length) (hk : isA d.sts[a].kind = true) : FrOk d.sts a := by
  have hl : ∀ s ∈ d.sts, s.symbols.length ≤ 10000 := fun s hs => by obtain ⟨i, hi, rfl⟩ := List.getElem_of_mem hs; exact ok.syms i hi
  have hyp : ∀ n ∈ hypsF d.sts a, ∃ h : n < d.sts.length, StW d.sts[n] ∧ (d.sts[n].kind = 2 ∨ d.sts[n].kind = 3) := fun n hn => by
    have hnl := hyps_lt d.sts a n hn
    have hkn := kind_hyp d.sts a n hn hnl
    exact ⟨hnl, h.stw hl _ (List.getElem_mem hnl) (by omega), hkn⟩
  refine ⟨ha, hk, h.stw hl _ (List.getElem_mem ha) (by intro e; rw [e] at hk; revert hk; decide), hyp, fun p hp => ⟨?_, pairs_size d.sts a h.szs p hp⟩⟩
  have hv : ∀ x ∈ varsOfF d.sts (hypsF d.sts a), NoBl x := by
    intro x hx
    unfold varsOfF at hx
    obtain ⟨n, hn, he⟩ := List.mem_filterMap.1 hx
    obtain ⟨hnl, hst, -⟩ := hyp n hn
    unfold varOne at he
    rw [List.getElem?_eq_getElem hnl] at he
    simp only at he
    split at he
    · cases he
      unfold variableF
      split
      · next hc =>
        refine (hst.syms _ ?_).noBl
        rw [List.getD_eq_getElem?_getD, List.getElem?_eq_getElem (show 1 < d.sts[n].symbols.length by omega)]
        exact List.getElem_mem _
      · exact noBl_nil
    · cases he
  unfold pairsF prsF prTo at hp
  obtain ⟨i, -, hp⟩ := List.mem_flatMap.1 hp
  unfold prRow at hp
  obtain ⟨j, -, rfl⟩ := List.mem_map.1 hp
  exact ⟨gD_noBl _ _ hv, gD_noBl _ _ hv⟩

theorem get_of {L : List ByteArray} {k : Nat} {x : ByteArray} (h : L[k]? = some x) (hk : k < L.length) : L[k] = x := by
  rw [List.getElem?_eq_getElem hk] at h; exact Option.some.inj h
theorem lines_ok {l : List St} {a : Nat} (h : FrOk l a) (lab : ByteArray) (hl : (l[a]'h.ha).label.toList = lab.toList) (k : Nat) (hk : k < (linesF l a).length) : LineOk lab (decide (k + 1 = (linesF l a).length)) (linesF l a)[k] := by
  have hlen := lines_len l a
  by_cases h1 : k < (hypsF l a).length
  · obtain ⟨hq, hst, hkn⟩ := h.hyp _ (List.getElem_mem h1)
    rw [get_of (lines_hyp l a k h1 hq) hk]
    exact line_ok_hyp hst hkn _ _
  · by_cases h2 : k < (hypsF l a).length + (pairsF l a).length
    · obtain ⟨j, rfl⟩ : ∃ j, k = (hypsF l a).length + j := ⟨k - (hypsF l a).length, by omega⟩
      rw [get_of (lines_pair l a j (by omega)) hk]
      obtain ⟨⟨b1, b2⟩, b3⟩ := h.prs _ (List.getElem_mem (show j < (pairsF l a).length by omega))
      exact line_ok_pair _ b1 b2 b3 _ _
    · have e : k = (hypsF l a).length + (pairsF l a).length := by omega
      subst e
      rw [get_of (lines_last l a h.ha) hk, decide_eq_true (by omega)]
      exact line_ok_own h.own h.isa lab hl

def labN (l : List St) (n : Nat) : ByteArray := match l[n]? with | some s => s.label | none => ⟨#[]⟩
theorem step_hyp {s : St} (h : StW s) (hk : s.kind = 2 ∨ s.kind = 3) (f : Fm) : (stepF f (splitF (lineF s))).hyps = f.hyps ++ [s.label] ∧ (stepF f (splitF (lineF s))).goal = f.goal := by
  rw [h.split]
  have hd := isD_of s.label (keyF s.kind :: s.symbols) h.lab
  rcases hk with hk | hk
  · have h2 := h.two hk
    have k1 : isKey (s.label :: keyF s.kind :: s.symbols) 102 = true := by rw [key_of, hk, keyF_2, tl2]; rfl
    unfold stepF
    rw [if_neg (by rw [hd]; simp), if_pos ⟨k1, by simp [h2]⟩]
    exact ⟨rfl, rfl⟩
  · have k1 : isKey (s.label :: keyF s.kind :: s.symbols) 102 = false := by rw [key_of, hk, keyF_3, tl2]; decide
    have k2 : isKey (s.label :: keyF s.kind :: s.symbols) 101 = true := by rw [key_of, hk, keyF_3, tl2]; rfl
    unfold stepF
    rw [if_neg (by rw [hd]; simp), if_neg (by rw [k1]; simp), if_pos k2]
    exact ⟨rfl, rfl⟩
theorem step_pair (p : Pr) (h1 : NoBl p.1) (h2 : NoBl p.2) (f : Fm) : (stepF f (splitF (pairLine p))).hyps = f.hyps ∧ (stepF f (splitF (pairLine p))).goal = f.goal := by
  rw [pair_split p h1 h2]
  unfold stepF
  rw [if_pos (isD_pair _)]
  exact ⟨rfl, rfl⟩
theorem step_own {s : St} (h : StW s) (hk : isA s.kind = true) (f : Fm) : (stepF f (splitF (lineF s))).hyps = f.hyps ∧ (stepF f (splitF (lineF s))).goal = s.symbols := by
  rw [h.split]
  have hd := isD_of s.label (keyF s.kind :: s.symbols) h.lab
  have hk' : s.kind = 4 ∨ s.kind = 5 := by unfold isA at hk; simpa using hk
  have k1 : isKey (s.label :: keyF s.kind :: s.symbols) 102 = false := by
    rw [key_of]
    rcases hk' with e | e <;> rw [e]
    · rw [keyF_4, tl2]; decide
    · rw [keyF_5, tl2]; decide
  have k2 : isKey (s.label :: keyF s.kind :: s.symbols) 101 = false := by
    rw [key_of]
    rcases hk' with e | e <;> rw [e]
    · rw [keyF_4, tl2]; decide
    · rw [keyF_5, tl2]; decide
  unfold stepF
  rw [if_neg (by rw [hd]; simp), if_neg (by rw [k1]; simp), if_neg (by rw [k2]; simp)]
  exact ⟨rfl, rfl⟩
theorem fold_hyps (l : List St) (hs : List Nat) (h : ∀ n ∈ hs, ∃ h : n < l.length, StW l[n] ∧ (l[n].kind = 2 ∨ l[n].kind = 3)) (f : Fm) :
    ((hs.map (lineN l)).foldl (fun f x => stepF f (splitF x)) f).hyps = f.hyps ++ hs.map (labN l) ∧ ((hs.map (lineN l)).foldl (fun f x => stepF f (splitF x)) f).goal = f.goal := by
  induction hs generalizing f with
  | nil => simp
  | cons n hs ih =>
    obtain ⟨hn, hst, hk⟩ := h n (by simp)
    have e1 : lineN l n = lineF l[n] := by unfold lineN; rw [List.getElem?_eq_getElem hn]
    have e2 : labN l n = l[n].label := by unfold labN; rw [List.getElem?_eq_getElem hn]
    simp only [List.map_cons, List.foldl_cons]
    obtain ⟨i1, i2⟩ := ih (fun n hn => h n (List.mem_cons_of_mem _ hn)) (stepF f (splitF (lineN l n)))
    rw [i1, i2, e1, e2, (step_hyp hst hk f).1, (step_hyp hst hk f).2]
    simp
theorem fold_pairs (ps : List Pr) (h : ∀ p ∈ ps, NoBl p.1 ∧ NoBl p.2) (f : Fm) : ((ps.map pairLine).foldl (fun f x => stepF f (splitF x)) f).hyps = f.hyps ∧ ((ps.map pairLine).foldl (fun f x => stepF f (splitF x)) f).goal = f.goal := by
  induction ps generalizing f with
  | nil => simp
  | cons p ps ih =>
    simp only [List.map_cons, List.foldl_cons]
    obtain ⟨i1, i2⟩ := ih (fun n hn => h n (List.mem_cons_of_mem _ hn)) (stepF f (splitF (pairLine p)))
    have hp := h p (by simp)
    rw [i1, i2, (step_pair p hp.1 hp.2 f).1, (step_pair p hp.1 hp.2 f).2]
    exact ⟨rfl, rfl⟩
theorem form_is {l : List St} {a : Nat} (h : FrOk l a) : (formF (linesF l a)).hyps = (hypsF l a).map (labN l) ∧ (formF (linesF l a)).goal = (l[a]'h.ha).symbols := by
  unfold formF formTo
  rw [List.take_length]
  unfold linesF
  rw [List.foldl_append, List.foldl_append]
  have e1 : lineN l a = lineF (l[a]'h.ha) := by unfold lineN; rw [List.getElem?_eq_getElem h.ha]
  simp only [List.foldl_cons, List.foldl_nil, e1]
  obtain ⟨h1, h2⟩ := fold_hyps l (hypsF l a) h.hyp fm0
  obtain ⟨p1, p2⟩ := fold_pairs (pairsF l a) (fun p hp => (h.prs p hp).1) (((hypsF l a).map (lineN l)).foldl (fun f x => stepF f (splitF x)) fm0)
  obtain ⟨o1, o2⟩ := step_own h.own h.isa (((pairsF l a).map pairLine).foldl (fun f x => stepF f (splitF x)) (((hypsF l a).map (lineN l)).foldl (fun f x => stepF f (splitF x)) fm0))
  rw [o1, o2, p1, h1]
  exact ⟨by simp [fm0], rfl⟩

end Go.Proofs.YtcipkfhpcbddiaaGreat
