/- Our texts: GvC, GvD, GvE. -/
import Derived.Test.YtcipkfhpcbddiaaGreatG22
import Derived.Test.YtcipkfhpcbddiaaGreatG23
/- The frames of given's own statements. No walk. -/
namespace Go.Proofs.YtcipkfhpcbddiaaGreat
open Go.RowKit

/-- Positions and pairs of suffixes. -/
def sPos (ws : List (List UInt8)) (v : List UInt8) : Option Nat := (List.range ws.length).find? (fun i => ws.getD i [] == v)
def sPoss (ws vs : List (List UInt8)) : List Nat := vs.filterMap (sPos ws)
def sPr (ws : List (List UInt8)) (A : Nat → Nat → Bool) : List (List UInt8 × List UInt8) := (List.range ws.length).flatMap (fun i => ((List.range ws.length).filter (fun j => decide (i < j) && A i j)).map (fun j => (ws.getD i [], ws.getD j [])))
theorem getD_nm (z : ByteArray) (ws : List (List UInt8)) (i : Nat) (h : i < ws.length) : (ws.map (nm z)).getD i ⟨#[]⟩ = nm z (ws.getD i []) := by
  rw [List.getD_eq_getElem?_getD, List.getElem?_map, List.getD_eq_getElem?_getD, List.getElem?_eq_getElem h]; rfl
theorem pos_nm (z : ByteArray) (ws : List (List UInt8)) (v : List UInt8) : posF (ws.map (nm z)) (nm z v) = sPos ws v := by
  unfold posF sPos
  rw [List.length_map]
  have : ∀ q : List Nat, (∀ i ∈ q, i < ws.length) → q.find? (fun i => ((ws.map (nm z)).getD i ⟨#[]⟩).toList == (nm z v).toList) = q.find? (fun i => ws.getD i [] == v) := by
    intro q hq
    induction q with
    | nil => rfl
    | cons a q ih =>
      simp only [List.find?_cons]
      rw [ih (fun i hi => hq i (List.mem_cons_of_mem _ hi)), getD_nm z ws a (hq a (by simp)), nm_beq]
  exact this _ (fun i hi => List.mem_range.1 hi)
theorem poss_nm (z : ByteArray) (ws vs : List (List UInt8)) : positionsF (ws.map (nm z)) (vs.map (nm z)) = sPoss ws vs := by
  unfold positionsF sPoss
  rw [List.filterMap_map]
  congr 1
  funext v
  exact pos_nm z ws v
theorem pr_nm (z : ByteArray) (ws : List (List UInt8)) (A : Nat → Nat → Bool) : prL (ws.map (nm z)) A = (sPr ws A).map (fun q => (nm z q.1, nm z q.2)) := by
  unfold prL sPr
  rw [List.length_map, List.map_flatMap]
  refine flat_congr _ _ _ (fun i hi => ?_)
  have hi := List.mem_range.1 hi
  rw [List.map_map]
  apply List.map_congr_left
  intro j hj
  have hj := List.mem_range.1 (List.mem_filter.1 hj).1
  simp only [Function.comp]
  unfold gD
  rw [getD_nm z ws i hi, getD_nm z ws j hj]

/-- The block's hypotheses and $d, ended. -/
def blkL (z : ByteArray) (p : Gp) (m : Nat) : List St := (hsL z p ++ dsL z p).map (endSt m)
def Gp.ds (p : Gp) : List (List (List UInt8)) := ifL p.full [[[50], [48], [49]]] ++ ifL p.d01 [[[49], [48]]] ++ ifL p.d02 [[[50], [48]]] ++ ifL p.d12 [[[50], [49]]]
theorem map_ifL {α β : Type} (f : α → β) (b : Bool) (l : List α) : (ifL b l).map f = ifL b (l.map f) := by cases b <;> rfl
theorem dsL_map (z : ByteArray) (p : Gp) : dsL z p = p.ds.map (gvD z) := by
  unfold dsL Gp.ds
  simp only [List.map_append, map_ifL]
  rfl
theorem recL_is (z : ByteArray) (p : Gp) (n : Nat) : recL z p n = blkL z p (n + (newL z p).length) ++ [gvB z p, gvA z] := by
  unfold recL blkL newL
  rw [List.map_append, List.append_assoc]
  rfl
theorem blk_len (z : ByteArray) (p : Gp) (m : Nat) : (blkL z p m).length + 1 = (newL z p).length := by
  unfold blkL newL
  rw [List.length_map]; simp only [List.length_append, List.length_cons, List.length_nil]
theorem end_hyp (z : ByteArray) (p : Gp) (m : Nat) (s : St) (h : s ∈ blkL z p m) : s.til = m ∧ isA s.kind = false ∧ NewN z s.symbols ∧ ((s.kind == 2) = true → 2 ≤ s.symbols.length) := by
  unfold blkL at h
  obtain ⟨t, ht, rfl⟩ := List.mem_map.1 h
  have hc : (∃ v, t = gvF z v) ∨ t = gvE z p ∨ ∃ vs, t = gvD z vs := by
    rcases List.mem_append.1 ht with ht | ht
    · unfold hsL ifL at ht
      cases hE : p.hasE
      · rw [hE] at ht; simp at ht
        rcases ht with h | h | h <;> exact Or.inl ⟨_, h⟩
      · rw [hE] at ht; simp at ht
        rcases ht with h | h | h | h
        · exact Or.inl ⟨_, h⟩
        · exact Or.inl ⟨_, h⟩
        · exact Or.inr (Or.inl h)
        · exact Or.inl ⟨_, h⟩
    · rw [dsL_map] at ht
      obtain ⟨vs, -, rfl⟩ := List.mem_map.1 ht
      exact Or.inr (Or.inr ⟨vs, rfl⟩)
  rcases hc with ⟨v, rfl⟩ | rfl | ⟨vs, rfl⟩
  · refine ⟨rfl, rfl, ?_, fun _ => Nat.le_refl 2⟩
    intro x hx
    have hx : x ∈ nm z [99] :: [v].map (nm z) := hx
    simp at hx
    rcases hx with h | h <;> exact ⟨_, h⟩
  · refine ⟨rfl, rfl, ?_, fun h => by cases h⟩
    intro x hx
    have hx : x ∈ nm z [99] :: p.ev.map (nm z) := hx
    rcases List.mem_cons.1 hx with h | h
    · exact ⟨_, h⟩
    · obtain ⟨v, -, rfl⟩ := List.mem_map.1 h
      exact ⟨_, rfl⟩
  · refine ⟨rfl, rfl, ?_, fun h => by cases h⟩
    intro x hx
    have hx : x ∈ vs.map (nm z) := hx
    obtain ⟨v, -, rfl⟩ := List.mem_map.1 hx
    exact ⟨_, rfl⟩
theorem rec_new (z : ByteArray) (p : Gp) (n : Nat) : (∀ s ∈ recL z p n, NewN z s.symbols) ∧ TwoOk (recL z p n) := by
  rw [recL_is]
  have hB : NewN z (gvB z p).symbols := by
    intro x hx
    have hx : x ∈ nm z [99] :: p.gv.map (nm z) := hx
    rcases List.mem_cons.1 hx with h | h
    · exact ⟨_, h⟩
    · obtain ⟨v, -, rfl⟩ := List.mem_map.1 h
      exact ⟨_, rfl⟩
  have hA : NewN z (gvA z).symbols := by
    intro x hx
    have hx : x ∈ [nm z [99]] := hx
    exact ⟨_, List.mem_singleton.1 hx⟩
  constructor
  · intro s hs
    rcases List.mem_append.1 hs with hs | hs
    · exact (end_hyp z p _ s hs).2.2.1
    · simp at hs
      rcases hs with rfl | rfl
      · exact hB
      · exact hA
  · intro s hs hk
    rcases List.mem_append.1 hs with hs | hs
    · exact (end_hyp z p _ s hs).2.2.2 hk
    · simp at hs
      rcases hs with rfl | rfl <;> cases hk
theorem blk_held (z : ByteArray) (p : Gp) (l : List St) : AllHeld l (blkL z p (l.length + (newL z p).length)) := ⟨fun s hs => by
  rw [(end_hyp z p _ s hs).1]
  have := blk_len z p (l.length + (newL z p).length)
  have h : decide (l.length + (blkL z p (l.length + (newL z p).length)).length < l.length + (newL z p).length) = true := by simp; omega
  rw [h, Bool.or_true]⟩

def Gp.i0 (p : Gp) : Bool := p.g0 || (p.hasE && p.e0)
def Gp.i1 (p : Gp) : Bool := p.g1 || (p.hasE && p.e1)
theorem blk_ess (z : ByteArray) (p : Gp) (m : Nat) : ((blkL z p m).filter (fun s => s.kind == 3)).flatMap (·.symbols) = (ifL p.hasE ([99] :: p.ev)).map (nm z) := by
  unfold blkL
  rw [List.map_append, List.filter_append, dsL_map, List.map_map]
  have e : ((p.ds.map (endSt m ∘ gvD z))).filter (fun s => s.kind == 3) = [] := by
    rw [List.filter_eq_nil_iff]
    intro s hs
    obtain ⟨vs, -, rfl⟩ := List.mem_map.1 hs
    exact fun h => by cases h
  rw [e, List.append_nil]
  unfold hsL
  cases p.hasE
  · rfl
  · show (gvE z p).symbols ++ [] = _
    rw [List.append_nil]; rfl
theorem blk_dis (z : ByteArray) (p : Gp) (m : Nat) : (blkL z p m).filter (fun s => s.kind == 1) = p.ds.map (fun vs => endSt m (gvD z vs)) := by
  unfold blkL
  rw [List.map_append, List.filter_append, dsL_map, List.map_map]
  have e : (p.ds.map (endSt m ∘ gvD z)).filter (fun s => s.kind == 1) = p.ds.map (endSt m ∘ gvD z) := by
    rw [List.filter_eq_self]
    intro s hs
    obtain ⟨vs, -, rfl⟩ := List.mem_map.1 hs
    rfl
  rw [e]
  unfold hsL
  cases p.hasE <;> rfl
theorem oS_free {T z : ByteArray} {l : List St} (hz : Zed T z) (h : Own T l) (a : List UInt8) : hasF (oS l) (nm z a) = false := by
  unfold hasF
  rw [List.any_eq_false]
  intro x hx
  unfold oS at hx
  obtain ⟨n, -, hm⟩ := List.mem_flatMap.1 hx
  unfold symsAt at hm
  cases e : l[n]? with
  | none => rw [e] at hm; simp at hm
  | some s =>
    rw [e] at hm
    have := nm_ne hz x (h.syms s (List.mem_of_getElem? e) x hm) a
    rw [show (x.toList == (nm z a).toList) = ((nm z a).toList == x.toList) from BEq.comm, this]
    simp
theorem bits_i (p : Gp) : (([99] :: p.gv).contains [48] || (ifL p.hasE ([99] :: p.ev)).contains [48]) = p.i0 ∧ (([99] :: p.gv).contains [49] || (ifL p.hasE ([99] :: p.ev)).contains [49]) = p.i1 ∧ (([99] :: p.gv).contains [50] || (ifL p.hasE ([99] :: p.ev)).contains [50]) = p.g2 := by
  rcases p with ⟨a, b, c, d, e, f, g, h, i⟩
  unfold Gp.gv Gp.ev Gp.i0 Gp.i1 ifL
  cases a <;> cases b <;> cases c <;> cases d <;> cases e <;> cases f <;> exact ⟨rfl, rfl, rfl⟩
theorem var_gvF (z : ByteArray) (m : Nat) (v : List UInt8) : variableF (endSt m (gvF z v)) = nm z v := rfl
theorem blk_mand (z : ByteArray) (p : Gp) (m : Nat) (S : List ByteArray) (h0 : hasF S (nm z [48]) = p.i0) (h1 : hasF S (nm z [49]) = p.i1) (h2 : hasF S (nm z [50]) = p.g2) : (blkL z p m).filter (fun s => mandF s S) = ifL p.i0 [endSt m (gvF z [48])] ++ ifL p.i1 [endSt m (gvF z [49])] ++ ifL p.hasE [endSt m (gvE z p)] ++ ifL p.g2 [endSt m (gvF z [50])] := by
  unfold blkL
  rw [List.map_append, List.filter_append, dsL_map, List.map_map]
  have e : ((p.ds.map (endSt m ∘ gvD z))).filter (fun s => mandF s S) = [] := by
    rw [List.filter_eq_nil_iff]
    intro s hs
    obtain ⟨vs, -, rfl⟩ := List.mem_map.1 hs
    exact fun h => by cases h
  rw [e, List.append_nil]
  have f0 : mandF (endSt m (gvF z [48])) S = p.i0 := by rw [← h0]; rfl
  have f1 : mandF (endSt m (gvF z [49])) S = p.i1 := by rw [← h1]; rfl
  have f2 : mandF (endSt m (gvF z [50])) S = p.g2 := by rw [← h2]; rfl
  have fE : mandF (endSt m (gvE z p)) S = true := rfl
  have one : ∀ (s : St) (b : Bool), mandF s S = b → [s].filter (fun s => mandF s S) = ifL b [s] := by
    intro s b hb
    cases b
    · rw [List.filter_cons_of_neg (by rw [hb]; simp)]; rfl
    · rw [List.filter_cons_of_pos (by rw [hb])]; rfl
  unfold hsL
  rw [show ([gvF z [48], gvF z [49]] : List St) = [gvF z [48]] ++ [gvF z [49]] from rfl]
  rw [List.map_append, List.map_append, List.map_append, List.filter_append, List.filter_append, List.filter_append, map_ifL]
  rw [List.map_cons, List.map_nil, List.map_cons, List.map_nil, List.map_cons, List.map_nil, List.map_cons, List.map_nil, one _ _ f0, one _ _ f1, one _ _ f2]
  congr 2
  cases p.hasE
  · rfl
  · exact one _ _ fE
def sW (p : Gp) : List (List UInt8) := ifL p.i0 [[48]] ++ ifL p.i1 [[49]] ++ ifL p.g2 [[50]]
theorem vars_mand (z : ByteArray) (p : Gp) (m : Nat) : (ifL p.i0 [endSt m (gvF z [48])] ++ ifL p.i1 [endSt m (gvF z [49])] ++ ifL p.hasE [endSt m (gvE z p)] ++ ifL p.g2 [endSt m (gvF z [50])]).filterMap varS = (sW p).map (nm z) := by
  unfold sW
  cases p.i0 <;> cases p.i1 <;> cases p.hasE <;> cases p.g2 <;> rfl
def sDs (d01 d02 d12 : Bool) : List (List (List UInt8)) := ifL (d01 && d02 && d12) [[[50], [48], [49]]] ++ ifL d01 [[[49], [48]]] ++ ifL d02 [[[50], [48]]] ++ ifL d12 [[[50], [49]]]
def sWs (i0 i1 i2 : Bool) : List (List UInt8) := ifL i0 [[48]] ++ ifL i1 [[49]] ++ ifL i2 [[50]]
def sPrs (i0 i1 i2 d01 d02 d12 : Bool) : List (List UInt8 × List UInt8) := ifL (d01 && (i0 && i1)) [([48], [49])] ++ ifL (d02 && (i0 && i2)) [([48], [50])] ++ ifL (d12 && (i1 && i2)) [([49], [50])]
theorem pr_all : ∀ i0 i1 i2 d01 d02 d12 : Bool, sPr (sWs i0 i1 i2) (fun i j => !(i == j) && (sDs d01 d02 d12).any (fun vs => (sPoss (sWs i0 i1 i2) vs).contains i && (sPoss (sWs i0 i1 i2) vs).contains j)) = sPrs i0 i1 i2 d01 d02 d12 := by decide +kernel

/-- The frame of zb: what is new in it. -/
def hypL (z : ByteArray) (p : Gp) (m : Nat) : List St := ifL p.i0 [endSt m (gvF z [48])] ++ ifL p.i1 [endSt m (gvF z [49])] ++ ifL p.hasE [endSt m (gvE z p)] ++ ifL p.g2 [endSt m (gvF z [50])]
def gPrs (z : ByteArray) (p : Gp) : List Pr := (sPrs p.i0 p.i1 p.g2 p.d01 p.d02 p.d12).map (fun q => (nm z q.1, nm z q.2))
theorem lines_b {T z : ByteArray} {l : List St} (p : Gp) (hz : Zed T z) (h : Own T l) (h2 : TwoOk l) :
    linesF (l ++ recL z p l.length) (l.length + (blkL z p (l.length + (newL z p).length)).length) = ((oHs l).map (lineN l) ++ (hypL z p (l.length + (newL z p).length)).map lineF) ++ ((oP l).map pairLine ++ (gPrs z p).map pairLine) ++ [lineF (gvB z p)] := by
  obtain ⟨hN, h3⟩ := rec_new z p l.length
  rw [recL_is] at hN h3 ⊢
  have ah := blk_held z p l
  generalize hm : l.length + (newL z p).length = m at *
  obtain ⟨-, b⟩ := lines_split hz h h2 hN h3 (blkL z p m).length
  have hS : ∀ a, hasF (symsOfF (l ++ (blkL z p m ++ [gvB z p, gvA z])) (l.length + (blkL z p m).length)) (nm z a) = (([99] :: p.gv).contains a || (ifL p.hasE ([99] :: p.ev)).contains a) := by
    intro a
    rw [symsOf_split h.til, nS_new ah, blk_ess, has_app, has_app, oS_free hz h, has_nm, Bool.false_or]
    congr 1
    have : symsAt (blkL z p m ++ [gvB z p, gvA z]) (blkL z p m).length = ([99] :: p.gv).map (nm z) := by
      unfold symsAt
      rw [List.getElem?_append_right (Nat.le_refl _), Nat.sub_self]; rfl
    rw [this, has_nm]
  obtain ⟨b0, b1, b2⟩ := bits_i p
  have hH : (nH l (blkL z p m ++ [gvB z p, gvA z]) (blkL z p m).length).map (fun j => (blkL z p m ++ [gvB z p, gvA z]).getD j stQ) = hypL z p m := by
    rw [nH_new ah]
    exact blk_mand z p m _ (by rw [hS, b0]) (by rw [hS, b1]) (by rw [hS, b2])
  have hW : varsOfF (blkL z p m ++ [gvB z p, gvA z]) (nH l (blkL z p m ++ [gvB z p, gvA z]) (blkL z p m).length) = (sW p).map (nm z) := by
    rw [map_vars _ _ (nH_lt _ _ _), hH]
    exact vars_mand z p m
  have hP : nP l (blkL z p m ++ [gvB z p, gvA z]) (blkL z p m).length = gPrs z p := by
    unfold nP gPrs
    rw [hW, pr_nm, ← pr_all p.i0 p.i1 p.g2 p.d01 p.d02 p.d12]
    congr 2
    funext i j
    congr 1
    rw [nT_new ah, blk_dis, List.any_map]
    have e : p.ds = sDs p.d01 p.d02 p.d12 := rfl
    rw [e]
    congr 1
    funext vs
    have e2 : (endSt m (gvD z vs)).symbols = vs.map (nm z) := rfl
    simp only [Function.comp, e2, poss_nm]
    rfl
  rw [b, hP, map_lines _ _ (nH_lt _ _ _), hH]
  congr 1
  unfold lineN
  rw [List.getElem?_append_right (Nat.le_refl _), Nat.sub_self]; rfl
/-- The frame of za. -/
theorem lines_a {T z : ByteArray} {l : List St} (p : Gp) (hz : Zed T z) (h : Own T l) (h2 : TwoOk l) :
    linesF (l ++ recL z p l.length) (l.length + (newL z p).length) = (oHs l).map (lineN l) ++ (oP l).map pairLine ++ [lineF (gvA z)] := by
  obtain ⟨hN, h3⟩ := rec_new z p l.length
  obtain ⟨-, b⟩ := lines_quiet hz h h2 hN h3 (newL z p).length (fun j s hs hh => by
    rw [held_new, hs] at hh
    simp only [Bool.and_eq_true, Bool.or_eq_true, decide_eq_true_eq, beq_iff_eq] at hh
    rw [recL_is] at hs
    have hl := blk_len z p (l.length + (newL z p).length)
    by_cases hj : j < (blkL z p (l.length + (newL z p).length)).length
    · rw [List.getElem?_append_left hj] at hs
      have := (end_hyp z p _ s (List.mem_of_getElem? hs)).1
      have hnz : (newL z p).length ≠ 0 := by omega
      omega
    · have : j = (blkL z p (l.length + (newL z p).length)).length := by omega
      rw [this, List.getElem?_append_right (Nat.le_refl _), Nat.sub_self] at hs
      have : gvB z p = s := Option.some.inj hs
      rw [← this]; rfl)
  rw [b]
  congr 1
  have hl := blk_len z p (l.length + (newL z p).length)
  unfold lineN
  rw [recL_is, List.getElem?_append_right (by omega)]
  have : (newL z p).length - (blkL z p (l.length + (newL z p).length)).length = 1 := by omega
  rw [this]; rfl
/-- The frame of outer's own assertion. -/
theorem lines_o {T z : ByteArray} {l : List St} (hz : Zed T z) (h : Own T l) (h2 : TwoOk l) (q : Pl) :
    hypsF (l ++ [⟨4, z ++ sfx [97], [z ++ sfx [113]], [], q, 0⟩]) l.length = oHs l ∧ linesF (l ++ [⟨4, z ++ sfx [97], [z ++ sfx [113]], [], q, 0⟩]) l.length = (oHs l).map (lineN l) ++ (oP l).map pairLine ++ [nm z [97] ++ ⟨#[32]⟩ ++ ⟨#[36, 97]⟩ ++ (⟨#[32]⟩ ++ nm z [113])] := by
  have := lines_quiet (N := [⟨4, z ++ sfx [97], [z ++ sfx [113]], [], q, 0⟩]) hz h h2 (fun s hs => by
    rw [List.mem_singleton.1 hs]
    intro x hx
    have hx : x ∈ [z ++ sfx [113]] := hx
    exact ⟨[113], List.mem_singleton.1 hx⟩) (fun s hs hk => by rw [List.mem_singleton.1 hs] at hk; cases hk) 0 (fun j s hs hh => by
    rw [held_new, hs] at hh
    simp at hh)
  exact this

end Go.Proofs.YtcipkfhpcbddiaaGreat

/- The texts of outer and given: all that their walks look at. No walk. -/
namespace Go.Proofs.YtcipkfhpcbddiaaGreat
open Go.RowKit

def bareL (T : ByteArray) : List St := (rdM T).2.sts.map bare
theorem bareL_ok {T : ByteArray} (hT : Fine T) : Own T (bareL T) ∧ TwoOk (bareL T) := by
  have h := own_of T hT
  refine ⟨⟨fun s hs => ?_, fun s hs x hx => ?_⟩, fun s hs hk => ?_⟩
  · obtain ⟨t, ht, rfl⟩ := List.mem_map.1 hs
    have := h.til t ht
    unfold bareL
    rw [List.length_map]
    exact this
  · obtain ⟨t, ht, rfl⟩ := List.mem_map.1 hs
    exact h.syms t ht x hx
  · obtain ⟨t, ht, rfl⟩ := List.mem_map.1 hs
    have hk2 : t.kind = 2 := eq_of_beq hk
    have := ((rdM_nmT T hT.size).sts t ht).two hk2
    show 2 ≤ t.symbols.length
    omega
/-- The lines that every new frame has of the text: hypotheses, pairs. -/
def hlL (T : ByteArray) : List ByteArray := (oHs (bareL T)).map (lineN (bareL T))
def plL (T : ByteArray) : List ByteArray := (oP (bareL T)).map pairLine

theorem names_bare (R : List St) (lab : ByteArray) (n : Nat) : namesA (R.map bare) lab n = namesA R lab n := by
  unfold namesA; rw [List.getElem?_map]; cases R[n]? <;> rfl
theorem findA_bare (R : List St) (lab : ByteArray) : findAF (R.map bare) lab = findAF R lab := by
  unfold findAF
  rw [List.length_map, show namesA (R.map bare) lab = namesA R lab from funext (names_bare R lab)]
theorem findA_at {R : List St} {lab : ByteArray} {n : Nat} (hn : n < R.length) (h1 : namesA R lab n = true) (h2 : ∀ m, m < n → namesA R lab m = false) : findAF R lab = some n := by
  unfold findAF
  rw [List.find?_range_eq_some]
  exact ⟨h1, List.mem_range.2 hn, fun j hj => by rw [h2 j hj]; rfl⟩
theorem names_old {T z : ByteArray} (hT : Fine T) (hz : Zed T z) (N : List St) (a : List UInt8) (m : Nat) (hm : m < (bareL T).length) : namesA (bareL T ++ N) (nm z a) m = false := by
  unfold namesA
  rw [List.getElem?_append_left hm, List.getElem?_eq_getElem hm]
  simp only
  obtain ⟨t, ht, e⟩ := List.mem_map.1 (List.getElem_mem hm)
  have hso := (rdM_nmT T hT.size).sts t ht
  cases hk : isA (bareL T)[m].kind
  · simp
  · have hk : isA t.kind = true := by
      have : (bareL T)[m].kind = t.kind := by rw [← e]; rfl
      rw [← this]; exact hk
    have hk2 : 2 ≤ t.kind ∧ t.kind ≤ 5 := hso.kind.resolve_left (by intro e; rw [e] at hk; revert hk; decide)
    have hl : (bareL T)[m].label = t.label := by rw [← e]; rfl
    rw [hl, show (t.label.toList == (nm z a).toList) = ((nm z a).toList == t.label.toList) from BEq.comm, nm_ne hz _ (hso.lab hk2).1.2 a]; rfl
theorem names_new (l N : List St) (lab : ByteArray) (j : Nat) : namesA (l ++ N) lab (l.length + j) = namesA N lab j := by
  unfold namesA; rw [new_at]
theorem find_new {T z : ByteArray} (hT : Fine T) (hz : Zed T z) (N : List St) (a : List UInt8) (j : Nat) (hj : j < N.length) (h1 : namesA N (nm z a) j = true) (h2 : ∀ m, m < j → namesA N (nm z a) m = false) : findAF (bareL T ++ N) (nm z a) = some ((bareL T).length + j) := by
  refine findA_at (by rw [List.length_append]; omega) (by rw [names_new]; exact h1) (fun m hm => ?_)
  by_cases h : m < (bareL T).length
  · exact names_old hT hz N a m h
  · obtain ⟨q, rfl⟩ : ∃ q, m = (bareL T).length + q := ⟨m - (bareL T).length, by omega⟩
    rw [names_new]
    exact h2 q (by omega)

/-- The text of outer. -/
def outU (T z : ByteArray) : ByteArray := T ++ joinB ((10, kw 99) :: outL z)
structure FrameU (U lab : ByteArray) (L : List ByteArray) (n : Nat) : Prop where
  find : findAF (rdM U).2.sts lab = some n
  lines : linesF (rdM U).2.sts n = L
def lastO (z : ByteArray) : ByteArray := nm z [97] ++ ⟨#[32]⟩ ++ ⟨#[36, 97]⟩ ++ (⟨#[32]⟩ ++ nm z [113])
theorem outer_all {T z : ByteArray} (hT : Fine T) (hz : Zed T z) : holdsF (outU T z) = false ∧ (rdM (outU T z)).1 = (0, 0) ∧ ∃ n, FrameU (outU T z) (nm z [97]) (hlL T ++ plL T ++ [lastO z]) n ∧ (hypsF (rdM (outU T z)).2.sts n).length = (hlL T).length := by
  obtain ⟨d', p, h1, h2, h3⟩ := outer_read T z hT hz
  obtain ⟨ho, h2o⟩ := bareL_ok hT
  have hb : (rdM (outU T z)).2.sts.map bare = bareL T ++ [⟨4, z ++ sfx [97], [z ++ sfx [113]], [], noPl, 0⟩] := by
    unfold outU
    rw [h1]
    show d'.sts.map bare = _
    rw [h2, List.map_append]; rfl
  obtain ⟨a, b⟩ := lines_o hz ho h2o noPl
  refine ⟨h3, by unfold outU; rw [h1], (bareL T).length, ⟨?_, ?_⟩, ?_⟩
  · rw [← findA_bare, hb]
    exact find_new hT hz _ [97] 0 (by simp) (by unfold namesA nm; simp [isA]) (fun m hm => by omega)
  · rw [← lines_bare, hb, b]; rfl
  · rw [← hyps_bare, hb, a]
    unfold hlL
    rw [List.length_map]

/-- The text of given. -/
def gvW (z : ByteArray) (p : Gp) : List (UInt8 × ByteArray) :=
  [(32, nm z [99]), (32, kw 46), (10, kw 123)] ++ (wBody z p).map (fun x => (32, x)) ++ [(32, kw 125), (10, nm z [97]), (32, kw 97), (32, nm z [99]), (32, kw 46)]
def gvU (T z : ByteArray) (p : Gp) : ByteArray := T ++ joinB ((10, kw 99) :: gvW z p)
theorem gvW_words (z : ByteArray) (p : Gp) : kw 99 :: (gvW z p).map (·.2) = wAll z p := by
  unfold gvW wAll
  rw [List.map_append, List.map_append, List.map_map]
  rw [show ((fun x : UInt8 × ByteArray => x.2) ∘ fun x => ((32 : UInt8), x)) = id from rfl, List.map_id]
  simp [wSt]
theorem ours_st {T z : ByteArray} (hz : Zed T z) (a : List UInt8) (ha : sfxOk a = true) (c : UInt8) (hc : c ≠ 91 ∧ c ≠ 40 ∧ 33 ≤ c.toNat ∧ c.toNat ≤ 126) (vs : List (List UInt8)) (hv : ∀ v ∈ vs, sfxOk v = true) : ∀ x ∈ wSt z a c vs, OurW x := by
  intro x hx
  unfold wSt at hx
  simp only [List.mem_cons, List.mem_append, List.mem_map, List.not_mem_nil, or_false] at hx
  rcases hx with rfl | rfl | (rfl | ⟨v, hv', rfl⟩) | rfl
  · exact Or.inl (wd_nm hz a ha).1
  · exact Or.inr ⟨c, rfl, hc⟩
  · exact Or.inl (wd_nm hz [99] (by decide)).1
  · exact Or.inl (wd_nm hz v (hv v hv')).1
  · exact Or.inr ⟨46, rfl, by decide⟩
theorem ours_d {T z : ByteArray} (hz : Zed T z) (c : UInt8) (hc : c ≠ 91 ∧ c ≠ 40 ∧ 33 ≤ c.toNat ∧ c.toNat ≤ 126) (vs : List (List UInt8)) (hv : ∀ v ∈ vs, sfxOk v = true) : ∀ x ∈ kw c :: (vs.map (nm z) ++ [kw 46]), OurW x := by
  intro x hx
  simp only [List.mem_cons, List.mem_append, List.mem_map, List.not_mem_nil, or_false] at hx
  rcases hx with rfl | ⟨v, hv', rfl⟩ | rfl
  · exact Or.inr ⟨c, rfl, hc⟩
  · exact Or.inl (wd_nm hz v (hv v hv')).1
  · exact Or.inr ⟨46, rfl, by decide⟩
theorem mem_ifL {α : Type} {b : Bool} {l : List α} {x : α} (h : x ∈ ifL b l) : x ∈ l := by
  cases b
  · cases h
  · exact h
theorem ours_body {T z : ByteArray} (hz : Zed T z) (p : Gp) : ∀ x ∈ wBody z p, OurW x := by
  intro x hx
  have v3 : ∀ v : List UInt8, v = [48] ∨ v = [49] ∨ v = [50] → sfxOk v = true := by rintro v (rfl | rfl | rfl) <;> decide
  unfold wBody wD at hx
  simp only [List.mem_append] at hx
  rcases hx with ((((((((h | h) | h) | h) | h) | h) | h) | h) | h) | h
  · exact ours_d hz 118 (by decide) [[48], [49], [50]] (by decide) x (by rcases h with h; exact h)
  · exact ours_st hz _ (by decide) 102 (by decide) _ (by decide) x h
  · exact ours_st hz _ (by decide) 102 (by decide) _ (by decide) x h
  · exact ours_st hz _ (by decide) 101 (by decide) _ (fun v hv => v3 v (by rcases ev_mem p v hv with h | h <;> simp [h])) x (mem_ifL h)
  · exact ours_st hz _ (by decide) 102 (by decide) _ (by decide) x h
  · exact ours_d hz 100 (by decide) _ (by decide) x (mem_ifL h)
  · exact ours_d hz 100 (by decide) _ (by decide) x (mem_ifL h)
  · exact ours_d hz 100 (by decide) _ (by decide) x (mem_ifL h)
  · exact ours_d hz 100 (by decide) _ (by decide) x (mem_ifL h)
  · exact ours_st hz _ (by decide) 97 (by decide) _ (fun v hv => v3 v (gv_mem p v hv)) x h
theorem given_read {T z : ByteArray} (p : Gp) (hT : Fine T) (hz : Zed T z) : ∃ d' M, rdM (gvU T z p) = ((0, 0), d') ∧ d'.sts = (rdM T).2.sts ++ M ∧ M.map bare = recL z p (rdM T).2.sts.length ∧ holdsF (gvU T z p) = false := by
  obtain ⟨d', h1, ⟨M, h2, h4⟩, h3⟩ := read_run T hT (kw 99) (gvW z p) (Or.inr ⟨99, rfl, by decide⟩) (fun y hy => by
    have c1 := (wd_nm hz [99] (by decide)).1
    have a1 := (wd_nm hz [97] (by decide)).1
    unfold gvW at hy
    rcases List.mem_append.1 hy with hy | hy
    · rcases List.mem_append.1 hy with hy | hy
      · simp only [List.mem_cons, List.not_mem_nil, or_false] at hy
        rcases hy with rfl | rfl | rfl
        · exact ⟨Or.inr rfl, Or.inl c1⟩
        · exact ⟨Or.inr rfl, Or.inr ⟨46, rfl, by decide⟩⟩
        · exact ⟨Or.inl rfl, Or.inr ⟨123, rfl, by decide⟩⟩
      · obtain ⟨x, hx, rfl⟩ := List.mem_map.1 hy
        exact ⟨Or.inr rfl, ours_body hz p x hx⟩
    · simp only [List.mem_cons, List.not_mem_nil, or_false] at hy
      rcases hy with rfl | rfl | rfl | rfl | rfl
      · exact ⟨Or.inr rfl, Or.inr ⟨125, rfl, by decide⟩⟩
      · exact ⟨Or.inl rfl, Or.inl a1⟩
      · exact ⟨Or.inr rfl, Or.inr ⟨97, rfl, by decide⟩⟩
      · exact ⟨Or.inr rfl, Or.inl c1⟩
      · exact ⟨Or.inr rfl, Or.inr ⟨46, rfl, by decide⟩⟩) _ (by rw [gvW_words]; exact all_run T z p hT hz)
  exact ⟨d', M, h1, h2, h4, h3⟩
/-- What the frames of zb and za must be. -/
def wantB (T z : ByteArray) (p : Gp) : List ByteArray := (hlL T ++ (hypL z p ((bareL T).length + (newL z p).length)).map lineF) ++ (plL T ++ (gPrs z p).map pairLine) ++ [lineF (gvB z p)]
def wantA (T z : ByteArray) : List ByteArray := hlL T ++ plL T ++ [lineF (gvA z)]
theorem given_all {T z : ByteArray} (p : Gp) (hT : Fine T) (hz : Zed T z) : holdsF (gvU T z p) = false ∧ (rdM (gvU T z p)).1 = (0, 0) ∧ (∃ n, FrameU (gvU T z p) (nm z [98]) (wantB T z p) n) ∧ ∃ n, FrameU (gvU T z p) (nm z [97]) (wantA T z) n := by
  obtain ⟨d', M, h1, h2, h4, h3⟩ := given_read p hT hz
  obtain ⟨ho, h2o⟩ := bareL_ok hT
  have hlen : (bareL T).length = (rdM T).2.sts.length := by unfold bareL; rw [List.length_map]
  have hb : (rdM (gvU T z p)).2.sts.map bare = bareL T ++ recL z p (bareL T).length := by
    rw [h1]
    show d'.sts.map bare = _
    rw [h2, List.map_append, h4, hlen]; rfl
  have hl := blk_len z p ((bareL T).length + (newL z p).length)
  have e1 : recL z p (bareL T).length = blkL z p ((bareL T).length + (newL z p).length) ++ [gvB z p, gvA z] := recL_is z p _
  have hold : ∀ lab m, m < (blkL z p ((bareL T).length + (newL z p).length)).length → namesA (recL z p (bareL T).length) lab m = false := by
    intro lab m hm
    unfold namesA
    rw [e1, List.getElem?_append_left hm, List.getElem?_eq_getElem hm]
    simp only
    rw [(end_hyp z p _ _ (List.getElem_mem hm)).2.1, Bool.and_false]
  have hBn : ∀ lab, namesA (recL z p (bareL T).length) lab (blkL z p ((bareL T).length + (newL z p).length)).length = ((nm z [98]).toList == lab.toList) := by
    intro lab
    unfold namesA
    rw [e1, List.getElem?_append_right (Nat.le_refl _), Nat.sub_self]
    show ((nm z [98]).toList == lab.toList && isA 4) = _
    rw [show isA 4 = true from rfl, Bool.and_true]
  have hAn : ∀ lab, namesA (recL z p (bareL T).length) lab (newL z p).length = ((nm z [97]).toList == lab.toList) := by
    intro lab
    unfold namesA
    rw [e1, List.getElem?_append_right (by omega), show (newL z p).length - (blkL z p ((bareL T).length + (newL z p).length)).length = 1 by omega]
    show ((nm z [97]).toList == lab.toList && isA 4) = _
    rw [show isA 4 = true from rfl, Bool.and_true]
  have hrl : (recL z p (bareL T).length).length = (newL z p).length + 1 := by rw [e1, List.length_append]; show _ + 2 = _; omega
  refine ⟨h3, by rw [h1], ⟨(bareL T).length + (blkL z p ((bareL T).length + (newL z p).length)).length, ?_, ?_⟩, ⟨(bareL T).length + (newL z p).length, ?_, ?_⟩⟩
  · rw [← findA_bare, hb]
    exact find_new hT hz _ [98] _ (by omega) (by rw [hBn]; simp) (fun m hm => hold _ m hm)
  · rw [← lines_bare, hb, lines_b p hz ho h2o]; rfl
  · rw [← findA_bare, hb]
    refine find_new hT hz _ [97] _ (by omega) (by rw [hAn]; simp) (fun m hm => ?_)
    by_cases h : m < (blkL z p ((bareL T).length + (newL z p).length)).length
    · exact hold _ m h
    · have : m = (blkL z p ((bareL T).length + (newL z p).length)).length := by omega
      rw [this, hBn, nm_beq]; rfl
  · rw [← lines_bare, hb, lines_a p hz ho h2o]; rfl

end Go.Proofs.YtcipkfhpcbddiaaGreat

/- Package metaproofkeep: sameTexts, find. -/
namespace Go.Proofs.YtcipkfhpcbddiaaGreat
open Go.RowKit

set_option maxHeartbeats 800000 in
theorem sameTexts_eq (g1 g2 c1 c2 : Nat) (L : List ByteArray) (w : World) (h1 : Hid (∀ j x, L[j]? = some x → w.cell? ⟨g1, j, none⟩ = some (.string x))) (h2 : Hid (∀ j x, L[j]? = some x → w.cell? ⟨g2, j, none⟩ = some (.string x))) (b1 : g1 < w.heap.size) (b2 : g2 < w.heap.size) (hL : L.length ≤ 1000000000) :
    Calls Tryz.prog 29 #[.slice (some ⟨g1, 0, none⟩) L.length c1, .slice (some ⟨g2, 0, none⟩) L.length c2] w fun e w' => e = .returned (.bool true) ∧ Kept [] w w' := by
  go_enter Tryz.func29, Tryz.ntmps29
  go_wp2
  go_loopg [5] L.length (fun g i wr => ∃ k : Nat, k ≤ L.length ∧ g = L.length - k ∧ i = .int .i64 k ∧ Kept [] w wr)
  case atStart => exact ⟨0, by omega, by omega, rfl, Kept.refl _ _⟩
  case round =>
    obtain ⟨k, hk, hg, rfl, hK⟩ := hrel
    by_cases hlt : k < L.length
    · have a1 := h1.out k L[k] (List.getElem?_eq_getElem hlt)
      have a2 := h2.out k L[k] (List.getElem?_eq_getElem hlt)
      generalize L[k] = x at *
      have e1 : wr.cell? ⟨g1, k, none⟩ = some (.string x) := by rw [World.cell?_of_block (hK.block g1 b1 (by simp))]; exact a1
      have e2 : wr.cell? ⟨g2, k, none⟩ = some (.string x) := by rw [World.cell?_of_block (hK.block g2 b2 (by simp))]; exact a2
      clear a1 a2
      go_upto_region 6 with fail
      go_region
      all_goals
        go_wp2
        go_roundg (L.length - (k + 1))
        case measure => omega
        case rel => exact ⟨k + 1, by omega, rfl, by go_num, hK.drew⟩
    · go_wp2
      go_ret
      exact ⟨rfl, hK⟩

theorem has_take (L : List ByteArray) (x : ByteArray) (k : Nat) (hk : k < L.length) : hasF (L.take (k + 1)) x = (hasF (L.take k) x || (L[k].toList == x.toList)) := by
  rw [take_snoc L k hk, has_app, has_one]
set_option maxHeartbeats 800000 in
theorem findS_any (ao : Option Addr) (c : Nat) (L : List ByteArray) (x : ByteArray) (w : World) (h1 : Hid (∀ j y, L[j]? = some y → ∃ g, ao = some ⟨g, 0, none⟩ ∧ g < w.heap.size ∧ w.cell? ⟨g, j, none⟩ = some (.string y))) (hL : L.length ≤ 1000000000) :
    Calls Tryz.prog 27 #[.slice ao L.length c, .string x] w fun e w' => ∃ k : Int, e = .returned (.int .i64 k) ∧ (decide (0 ≤ k) = hasF L x) ∧ Kept [] w w' := by
  go_enter Tryz.func27, Tryz.ntmps27
  go_wp2
  go_loopg [5] L.length (fun g i wr => ∃ k : Nat, k ≤ L.length ∧ g = L.length - k ∧ i = .int .i64 k ∧ Hid (hasF (L.take k) x = false) ∧ Kept [] w wr)
  case atStart => exact ⟨0, by omega, by omega, rfl, rfl, Kept.refl _ _⟩
  case round =>
    obtain ⟨k, hk, hg, rfl, hn, hK⟩ := hrel
    by_cases hlt : k < L.length
    · obtain ⟨g1, rfl, b1, a1⟩ := h1.out k L[k] (List.getElem?_eq_getElem hlt)
      have HT := (show Hid _ from has_take L x k hlt)
      have HY : Hid (hasF (L.take (k + 1)) x = true → hasF L x = true) := fun h => by
        unfold hasF at h ⊢
        obtain ⟨y, hy, he⟩ := List.any_eq_true.1 h
        exact List.any_eq_true.2 ⟨y, List.mem_of_mem_take hy, he⟩
      have e1 : wr.cell? ⟨g1, k, none⟩ = some (.string L[k]) := by rw [World.cell?_of_block (hK.block g1 b1 (by simp))]; exact a1
      clear a1
      generalize L[k] = y at *
      cases hb : (y.toList == x.toList)
      · go_wp2
        go_roundg (L.length - (k + 1))
        case measure => omega
        case rel => exact ⟨k + 1, by omega, rfl, by go_num, by show _ = _; rw [HT.out, hn.out, hb]; rfl, hK⟩
      · go_wp2
        go_ret
        refine ⟨k, rfl, ?_, hK⟩
        rw [HY.out (by rw [HT.out, hb]; simp)]
        simp
    · have e : k = L.length := by omega
      subst e
      have HN : Hid (hasF L x = false) := by show _ = _; have := hn.out; rw [List.take_length] at this; exact this
      clear hn
      go_wp2
      go_ret
      exact ⟨-1, rfl, by rw [HN.out]; rfl, hK⟩

end Go.Proofs.YtcipkfhpcbddiaaGreat
