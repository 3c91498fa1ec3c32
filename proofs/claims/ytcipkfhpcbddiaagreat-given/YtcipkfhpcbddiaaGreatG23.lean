/- Our texts: Gv6, Gv7, Gv8, Gv9, GvA, GvB. -/
import Derived.Test.YtcipkfhpcbddiaaGreatG18
import Derived.Test.YtcipkfhpcbddiaaGreatG22
/- The text of given: what is read of it. No walk. -/
namespace Go.Proofs.YtcipkfhpcbddiaaGreat
open Go.RowKit

/-- A statement without its places and its proof. -/
def bare (s : St) : St := { s with proof := [], fin := noPl }
def nm (z : ByteArray) (l : List UInt8) : ByteArray := z ++ sfx l
theorem nm_beq (z : ByteArray) (a b : List UInt8) : ((nm z a).toList == (nm z b).toList) = (a == b) := by
  unfold nm; rw [app_beq, sfx_list, sfx_list]
theorem has_nm (z : ByteArray) (ls : List (List UInt8)) (a : List UInt8) : hasF (ls.map (nm z)) (nm z a) = ls.contains a := by
  unfold hasF
  induction ls with
  | nil => rfl
  | cons b ls ih =>
    simp only [List.map_cons, List.any_cons, ih, nm_beq, List.contains_cons]
    rw [show (b == a) = (a == b) from BEq.comm]
theorem has_vars (v l : List ByteArray) (x : ByteArray) : hasF (addVarsTo v l) x = (hasF v x || hasF l x) := by
  unfold addVarsTo
  induction l generalizing v with
  | nil => simp [hasF]
  | cons a l ih =>
    simp only [List.foldl_cons]
    rw [ih]
    have e : hasF (a :: l) x = ((a.toList == x.toList) || hasF l x) := rfl
    rw [e]
    split
    · next h =>
      cases ha : (a.toList == x.toList)
      · simp
      · have : hasF v x = true := has_congr ha h
        rw [this]; simp
    · rw [has_app, has_one, Bool.or_assoc]

/-- Within the block of new statements: what has been read. ls: the labels; tv: the typed variables; N: the statements. -/
structure InB (z : ByteArray) (d0 d : Db) (ls tv : List (List UInt8)) (N : List St) : Prop where
  idle : Idle d
  blk : d.blocks = [(d0.active.length, d0.typed.length)]
  rbl : d.rbl = d0.rbl ++ [d0.sts.length]
  lab : d.labels = d0.labels ++ ls.map (nm z)
  con : d.constants = d0.constants ++ [nm z [99]]
  var : d.variables = addVarsTo d0.variables ([[48], [49], [50]].map (nm z))
  act : d.active = d0.active ++ [[48], [49], [50]].map (nm z)
  typ : d.typed = d0.typed ++ tv.map (nm z)
  sts : ∃ M, d.sts = d0.sts ++ M ∧ M.map bare = N
  nol : d.label = ⟨#[]⟩

theorem InB.free {T z : ByteArray} {d0 d : Db} {ls tv : List (List UInt8)} {N : List St} (h : InB z d0 d ls tv N) (hz : Zed T z) (hn : Nm (WdT T) d0) (a : List UInt8) (h1 : ls.contains a = false) (h2 : ([[99], [48], [49], [50]] : List (List UInt8)).contains a = false) : isTakenF d (nm z a) = false := by
  obtain ⟨n1, n2, n3, -, -⟩ := hz.not_has hn (sfx a)
  have e1 : hasF d0.labels (nm z a) = false := n1
  have e2 : hasF d0.constants (nm z a) = false := n2
  have e3 : hasF d0.variables (nm z a) = false := n3
  have h3 : (([99] : List UInt8) == a) = false ∧ ([[48], [49], [50]] : List (List UInt8)).contains a = false := by
    simp only [List.contains_cons, Bool.or_eq_false_iff] at h2 ⊢
    refine ⟨?_, h2.2⟩
    have := h2.1
    rw [beq_eq_false_iff_ne] at this ⊢
    exact fun e => this e.symm
  unfold isTakenF
  rw [h.lab, h.con, h.var, has_app, has_nm, has_app, has_one, nm_beq, has_vars, has_nm, e1, e2, e3, h1, h3.1, h3.2]
  rfl
theorem wd_nm {T z : ByteArray} (hz : Zed T z) (a : List UInt8) (ha : sfxOk a = true) : Wd (nm z a) ∧ isLabelF (nm z a) = true := hz.name a ha

/-- One labelled statement more: its symbols are the constant and some of the variables. -/
theorem InB.st {T z : ByteArray} {d0 d : Db} {ls tv : List (List UInt8)} {N : List St} (h : InB z d0 d ls tv N) (hz : Zed T z) (hn : Nm (WdT T) d0) (a : List UInt8) (ha : sfxOk a = true) (h1 : ls.contains a = false) (h2 : ([[99], [48], [49], [50]] : List (List UInt8)).contains a = false)
    (c : UInt8) (k : Int) (hk : (c = 102 ∧ k = 2) ∨ (c = 101 ∧ k = 3) ∨ (c = 97 ∧ k = 4)) (vs : List (List UInt8)) (hv : ∀ v ∈ vs, v = [48] ∨ v = [49] ∨ v = [50]) (hf : k = 2 → ∃ v, vs = [v] ∧ tv.contains v = false) (he : k ≠ 2 → ∀ v ∈ vs, tv.contains v = true) :
    RunTo (nm z a :: kw c :: ((nm z [99] :: vs.map (nm z)) ++ [kw 46])) d (fun d' => InB z d0 d' (ls ++ [a]) (if k = 2 then tv ++ vs else tv) (N ++ [⟨k, nm z a, nm z [99] :: vs.map (nm z), [], noPl, 0⟩])) := by
  have hk5 : k = 2 ∨ k = 3 ∨ k = 4 := by rcases hk with ⟨_, h⟩ | ⟨_, h⟩ | ⟨_, h⟩ <;> omega
  obtain ⟨w1, w2⟩ := wd_nm hz a ha
  have wc := (wd_nm hz [99] (by decide)).1
  have wv : ∀ v ∈ vs, Wd (nm z v) := fun v hv' => by rcases hv v hv' with rfl | rfl | rfl <;> exact (wd_nm hz _ (by decide)).1
  have hact : ∀ v ∈ vs, hasF d.active (nm z v) = true := fun v hv' => by
    rw [h.act, has_app, has_nm]
    rcases hv v hv' with rfl | rfl | rfl <;> simp
  have htyp : ∀ v, hasF d.typed (nm z v) = tv.contains v := fun v => by
    obtain ⟨-, -, -, -, n5⟩ := hz.not_has hn (sfx v)
    have e5 : hasF d0.typed (nm z v) = false := n5
    rw [h.typ, has_app, has_nm, e5]; rfl
  have hcon : hasF d.constants (nm z [99]) = true := by rw [h.con]; exact has_last _ _
  refine (run_st h.idle (nm z a) w1 w2 (h.free hz hn a h1 h2) c k hk (nm z [99] :: vs.map (nm z)) ?_ (by simp) ?_ ?_).mono ?_
  · intro y hy
    rcases List.mem_cons.1 hy with rfl | hy
    · exact wc
    · obtain ⟨v, hv', rfl⟩ := List.mem_map.1 hy
      exact wv v hv'
  · intro hk2
    obtain ⟨v, rfl, -⟩ := hf hk2
    simp
  · intro pre y post hp
    unfold checkSymbolF
    have k7 : (k == 7) = false := by rw [beq_eq_false_iff_ne]; omega
    have k8 : (k == 8) = false := by rw [beq_eq_false_iff_ne]; omega
    have k1 : (k == 1) = false := by rw [beq_eq_false_iff_ne]; omega
    simp only [k7, k8, k1, Bool.false_eq_true, if_false]
    cases pre with
    | nil =>
      rw [if_pos (by rfl)]
      have hy : y = nm z [99] := by simp at hp; exact hp.1.symm
      subst hy
      unfold checkTypecodeF
      rw [if_neg (by show ¬ hasF d.constants (nm z [99]) = false; rw [hcon]; simp)]
    | cons q pre =>
      rw [if_neg (by show ¬ (pre.length + 1 = 0); omega)]
      have hp2 : vs.map (nm z) = pre ++ y :: post := by simp at hp; exact hp.2
      have hyv : y ∈ vs.map (nm z) := by rw [hp2]; simp
      obtain ⟨v, hvv, rfl⟩ := List.mem_map.1 hyv
      by_cases hk2 : k = 2
      · obtain ⟨v', rfl, htv⟩ := hf hk2
        have hpl : pre = [] ∧ post = [] := by
          have := congrArg List.length hp2
          simp at this
          exact ⟨List.eq_nil_of_length_eq_zero (by omega), List.eq_nil_of_length_eq_zero (by omega)⟩
        have hv' : v = v' := by simpa using hvv
        subst hv'
        rw [if_pos (by simp [hk2])]
        unfold checkFloatingF
        rw [if_neg (by show ¬ 1 < (q :: pre).length; rw [hpl.1]; simp), if_neg (by show ¬ hasF d.active (nm z v) = false; rw [hact v hvv]; simp), if_neg (by show ¬ hasF d.typed (nm z v) = true; rw [htyp, htv]; simp)]
      · rw [if_neg (by simpa using hk2)]
        unfold checkExpressionF
        have hta := he hk2 v hvv
        split
        · rfl
        · rw [if_neg (by show ¬ hasF d.active (nm z v) = false; rw [hact v hvv]; simp), if_neg (by show ¬ hasF d.typed (nm z v) = false; rw [htyp, hta]; simp)]
  · rintro d' ⟨p, rfl⟩
    obtain ⟨M, hM, hN⟩ := h.sts
    refine ⟨⟨h.idle.kind, h.idle.syms, h.idle.prf, h.idle.pr⟩, h.blk, h.rbl, ?_, h.con, h.var, h.act, ?_, ⟨M ++ [⟨k, nm z a, nm z [99] :: vs.map (nm z), [], p, 0⟩], ?_, ?_⟩, rfl⟩
    · show d.labels ++ [nm z a] = _
      rw [h.lab]; simp
    · show (if k = 2 then d.typed ++ _ else d.typed) = _
      by_cases hk2 : k = 2
      · obtain ⟨v, rfl, -⟩ := hf hk2
        rw [if_pos hk2, if_pos hk2, h.typ]
        simp
      · rw [if_neg hk2, if_neg hk2, h.typ]
    · show d.sts ++ _ = _
      rw [hM]; simp
    · rw [List.map_append, hN]; rfl
/-- A $d more. -/
theorem InB.dis {T z : ByteArray} {d0 d : Db} {ls tv : List (List UInt8)} {N : List St} (h : InB z d0 d ls tv N) (hz : Zed T z) (vs : List (List UInt8)) (hv : ∀ v ∈ vs, v = [48] ∨ v = [49] ∨ v = [50]) (h2 : 2 ≤ vs.length) (hd : vs.Pairwise (fun a b => (a == b) = false)) :
    RunTo (kw 100 :: (vs.map (nm z) ++ [kw 46])) d (fun d' => InB z d0 d' ls tv (N ++ [⟨1, ⟨#[]⟩, vs.map (nm z), [], noPl, 0⟩])) := by
  refine (run_list h.idle 100 1 (Or.inr ⟨rfl, rfl⟩) (vs.map (nm z)) ?_ (by simp; omega) (fun _ => by simpa using h2) ?_ ?_).mono ?_
  · intro y hy
    obtain ⟨v, hv', rfl⟩ := List.mem_map.1 hy
    rcases hv v hv' with rfl | rfl | rfl <;> exact (wd_nm hz _ (by decide)).1
  · rw [List.pairwise_map]
    exact hd.imp (fun {a b} hab => by rw [nm_beq]; exact hab)
  · intro y hy
    obtain ⟨v, hv', rfl⟩ := List.mem_map.1 hy
    rw [if_neg (by decide), h.act, has_app, has_nm]
    rcases hv v hv' with rfl | rfl | rfl <;> simp
  · rintro d' ⟨p, rfl⟩
    rw [if_neg (by decide)]
    obtain ⟨M, hM, hN⟩ := h.sts
    refine ⟨⟨rfl, rfl, rfl, rfl⟩, h.blk, h.rbl, h.lab, h.con, h.var, h.act, h.typ, ⟨M ++ [⟨1, d.label, vs.map (nm z), [], p, 0⟩], ?_, ?_⟩, rfl⟩
    · show d.sts ++ _ = _
      rw [hM]; simp
    · rw [List.map_append, hN, h.nol]; rfl

end Go.Proofs.YtcipkfhpcbddiaaGreat

/- The text of given, whole: its words, and the record that it leaves. No walk. -/
namespace Go.Proofs.YtcipkfhpcbddiaaGreat
open Go.RowKit

def ifL {α : Type} (b : Bool) (l : List α) : List α := if b = true then l else []
/-- What the bits ask for: an $e, and which variables it has; which the assertion has; which pairs. -/
structure Gp where
  hasE : Bool
  e0 : Bool
  e1 : Bool
  g0 : Bool
  g1 : Bool
  g2 : Bool
  d01 : Bool
  d02 : Bool
  d12 : Bool
def Gp.full (p : Gp) : Bool := p.d01 && p.d02 && p.d12
def Gp.ev (p : Gp) : List (List UInt8) := ifL p.e0 [[48]] ++ ifL p.e1 [[49]]
def Gp.gv (p : Gp) : List (List UInt8) := ifL p.g0 [[48]] ++ ifL p.g1 [[49]] ++ ifL p.g2 [[50]]
def gvF (z : ByteArray) (v : List UInt8) : St := ⟨2, nm z (102 :: v), nm z [99] :: [v].map (nm z), [], noPl, 0⟩
def gvE (z : ByteArray) (p : Gp) : St := ⟨3, nm z [101], nm z [99] :: p.ev.map (nm z), [], noPl, 0⟩
def gvD (z : ByteArray) (vs : List (List UInt8)) : St := ⟨1, ⟨#[]⟩, vs.map (nm z), [], noPl, 0⟩
def gvB (z : ByteArray) (p : Gp) : St := ⟨4, nm z [98], nm z [99] :: p.gv.map (nm z), [], noPl, 0⟩
def gvA (z : ByteArray) : St := ⟨4, nm z [97], [nm z [99]], [], noPl, 0⟩
/-- The $d of the block. -/
def dsL (z : ByteArray) (p : Gp) : List St := ifL p.full [gvD z [[50], [48], [49]]] ++ ifL p.d01 [gvD z [[49], [48]]] ++ ifL p.d02 [gvD z [[50], [48]]] ++ ifL p.d12 [gvD z [[50], [49]]]
/-- The hypotheses of the block. -/
def hsL (z : ByteArray) (p : Gp) : List St := [gvF z [48], gvF z [49]] ++ ifL p.hasE [gvE z p] ++ [gvF z [50]]
def newL (z : ByteArray) (p : Gp) : List St := hsL z p ++ dsL z p ++ [gvB z p]

def wSt (z : ByteArray) (a : List UInt8) (c : UInt8) (vs : List (List UInt8)) : List ByteArray := nm z a :: kw c :: ((nm z [99] :: vs.map (nm z)) ++ [kw 46])
def wD (z : ByteArray) (vs : List (List UInt8)) : List ByteArray := kw 100 :: (vs.map (nm z) ++ [kw 46])
def wBody (z : ByteArray) (p : Gp) : List ByteArray :=
  (kw 118 :: ([[48], [49], [50]].map (nm z) ++ [kw 46])) ++ wSt z [102, 48] 102 [[48]] ++ wSt z [102, 49] 102 [[49]] ++ ifL p.hasE (wSt z [101] 101 p.ev) ++ wSt z [102, 50] 102 [[50]] ++
    ifL p.full (wD z [[50], [48], [49]]) ++ ifL p.d01 (wD z [[49], [48]]) ++ ifL p.d02 (wD z [[50], [48]]) ++ ifL p.d12 (wD z [[50], [49]]) ++ wSt z [98] 97 p.gv
def wAll (z : ByteArray) (p : Gp) : List ByteArray := [kw 99, nm z [99], kw 46] ++ [kw 123] ++ wBody z p ++ [kw 125] ++ wSt z [97] 97 []

theorem RunTo.opt {b : Bool} {ws : List ByteArray} {d : Db} {R : Db → Prop} (h1 : b = true → RunTo ws d R) (h2 : b = false → R d) : RunTo (ifL b ws) d R := by
  cases b with
  | true => exact h1 rfl
  | false => exact RunTo.nil (h2 rfl)
theorem ifL_app {α : Type} (b : Bool) (l : List α) (x : α) : (if b = true then l ++ [x] else l) = l ++ ifL b [x] := by cases b <;> simp [ifL]
theorem gv_mem (p : Gp) : ∀ v ∈ p.gv, v = [48] ∨ v = [49] ∨ v = [50] := by
  intro v hv
  unfold Gp.gv ifL at hv
  rcases p with ⟨a, b, c, d, e, f, g, h, i⟩
  revert hv
  cases d <;> cases e <;> cases f <;> simp <;> intro h <;> (first | exact h | (rcases h with h | h <;> simp [h]) | simp [h])
theorem ev_mem (p : Gp) : ∀ v ∈ p.ev, v = [48] ∨ v = [49] := by
  intro v hv
  unfold Gp.ev ifL at hv
  rcases p with ⟨a, b, c, d, e, f, g, h, i⟩
  revert hv
  cases b <;> cases c <;> simp <;> intro h <;> (first | exact h | simp [h])

theorem body_run (T z : ByteArray) (d0 d : Db) (p : Gp) (hz : Zed T z) (hn : Nm (WdT T) d0) (h : Idle d)
    (e1 : d.blocks = [(d0.active.length, d0.typed.length)]) (e2 : d.rbl = d0.rbl ++ [d0.sts.length]) (e3 : d.labels = d0.labels) (e4 : d.constants = d0.constants ++ [nm z [99]]) (e5 : d.variables = d0.variables) (e6 : d.active = d0.active) (e7 : d.typed = d0.typed) (e8 : d.sts = d0.sts) :
    RunTo (wBody z p) d (fun d' => InB z d0 d' ([[102, 48], [102, 49]] ++ ifL p.hasE [[101]] ++ [[102, 50], [98]]) [[48], [49], [50]] (newL z p)) := by
  unfold wBody
  have v3 : ∀ v ∈ ([[48], [49], [50]] : List (List UInt8)), v = [48] ∨ v = [49] ∨ v = [50] := by intro v hv; simpa using hv
  have R0 : RunTo (kw 118 :: ([[48], [49], [50]].map (nm z) ++ [kw 46])) d (fun d' => InB z d0 d' [] [] []) := by
    refine (run_list h 118 8 (Or.inl ⟨rfl, rfl⟩) ([[48], [49], [50]].map (nm z)) ?_ (by simp) (fun hh => by cases hh) ?_ ?_).mono ?_
    · intro y hy
      obtain ⟨v, hv', rfl⟩ := List.mem_map.1 hy
      rcases v3 v hv' with rfl | rfl | rfl <;> exact (wd_nm hz _ (by decide)).1
    · rw [List.pairwise_map]
      have : ([[48], [49], [50]] : List (List UInt8)).Pairwise (fun a b => (a == b) = false) := by decide
      exact this.imp (fun {a b} hab => by rw [nm_beq]; exact hab)
    · intro y hy
      obtain ⟨v, hv', rfl⟩ := List.mem_map.1 hy
      rw [if_pos rfl]
      obtain ⟨n1, n2, -, n4, -⟩ := hz.not_has hn (sfx v)
      have f1 : hasF d0.labels (nm z v) = false := n1
      have f2 : hasF d0.constants (nm z v) = false := n2
      have f4 : hasF d0.active (nm z v) = false := n4
      unfold isTakenVF
      rw [e3, e4, e6, has_app, has_one, nm_beq, f1, f2, f4]
      rcases v3 v hv' with rfl | rfl | rfl <;> decide
    · rintro d' ⟨q, rfl⟩
      rw [if_pos rfl]
      refine ⟨⟨rfl, rfl, rfl, rfl⟩, e1, e2, (by show d.labels = d0.labels ++ []; rw [List.append_nil]; exact e3), e4, ?_, ?_, (by show d.typed = d0.typed ++ []; rw [List.append_nil]; exact e7), ⟨[], (by show d.sts = d0.sts ++ []; rw [List.append_nil]; exact e8), rfl⟩, rfl⟩
      · show addVarsTo d.variables (List.take _ _) = _
        rw [e5, List.take_of_length_le (by simp)]
      · show d.active ++ _ = _
        rw [e6]
  have R1 := RunTo.append R0 (R' := fun d' => InB z d0 d' [[102, 48]] [[48]] [gvF z [48]]) (fun d1 h1 => h1.st hz hn [102, 48] (by decide) (by decide) (by decide) 102 2 (Or.inl ⟨rfl, rfl⟩) [[48]] (by simp) (fun _ => ⟨[48], rfl, by decide⟩) (fun h => absurd rfl h))
  have R2 := RunTo.append R1 (R' := fun d' => InB z d0 d' [[102, 48], [102, 49]] [[48], [49]] [gvF z [48], gvF z [49]]) (fun d1 h1 => h1.st hz hn [102, 49] (by decide) (by decide) (by decide) 102 2 (Or.inl ⟨rfl, rfl⟩) [[49]] (by simp) (fun _ => ⟨[49], rfl, by decide⟩) (fun h => absurd rfl h))
  have R3 := RunTo.append R2 (b := ifL p.hasE (wSt z [101] 101 p.ev)) (R' := fun d' => InB z d0 d' ([[102, 48], [102, 49]] ++ ifL p.hasE [[101]]) [[48], [49]] ([gvF z [48], gvF z [49]] ++ ifL p.hasE [gvE z p])) (fun d1 h1 => by
    refine RunTo.opt (fun hb => ?_) (fun hb => ?_)
    · have := h1.st hz hn [101] (by decide) (by decide) (by decide) 101 3 (Or.inr (Or.inl ⟨rfl, rfl⟩)) p.ev (fun v hv => by rcases ev_mem p v hv with h | h <;> simp [h]) (fun h => by cases h) (fun _ v hv => by rcases ev_mem p v hv with rfl | rfl <;> decide)
      rw [hb]; exact this
    · rw [hb]; exact h1)
  have R4 := RunTo.append R3 (b := wSt z [102, 50] 102 [[50]]) (R' := fun d' => InB z d0 d' ([[102, 48], [102, 49]] ++ ifL p.hasE [[101]] ++ [[102, 50]]) [[48], [49], [50]] (hsL z p)) (fun d1 h1 => h1.st hz hn [102, 50] (by decide) (by cases p.hasE <;> decide) (by decide) 102 2 (Or.inl ⟨rfl, rfl⟩) [[50]] (by simp) (fun _ => ⟨[50], rfl, by decide⟩) (fun h => absurd rfl h))
  have R5 := RunTo.append R4 (b := ifL p.full (wD z [[50], [48], [49]])) (R' := fun d' => InB z d0 d' ([[102, 48], [102, 49]] ++ ifL p.hasE [[101]] ++ [[102, 50]]) [[48], [49], [50]] (hsL z p ++ ifL p.full [gvD z [[50], [48], [49]]])) (fun d1 h1 => by
    refine RunTo.opt (fun hb => ?_) (fun hb => ?_)
    · rw [hb]; exact h1.dis hz [[50], [48], [49]] (by simp) (by decide) (by decide)
    · rw [hb]; show InB _ _ _ _ _ (hsL z p ++ []); rw [List.append_nil]; exact h1)
  have R6 := RunTo.append R5 (b := ifL p.d01 (wD z [[49], [48]])) (R' := fun d' => InB z d0 d' ([[102, 48], [102, 49]] ++ ifL p.hasE [[101]] ++ [[102, 50]]) [[48], [49], [50]] (hsL z p ++ ifL p.full [gvD z [[50], [48], [49]]] ++ ifL p.d01 [gvD z [[49], [48]]])) (fun d1 h1 => by
    refine RunTo.opt (fun hb => ?_) (fun hb => ?_)
    · rw [hb]; exact h1.dis hz [[49], [48]] (by simp) (by decide) (by decide)
    · rw [hb]; show InB _ _ _ _ _ (_ ++ []); rw [List.append_nil]; exact h1)
  have R7 := RunTo.append R6 (b := ifL p.d02 (wD z [[50], [48]])) (R' := fun d' => InB z d0 d' ([[102, 48], [102, 49]] ++ ifL p.hasE [[101]] ++ [[102, 50]]) [[48], [49], [50]] (hsL z p ++ ifL p.full [gvD z [[50], [48], [49]]] ++ ifL p.d01 [gvD z [[49], [48]]] ++ ifL p.d02 [gvD z [[50], [48]]])) (fun d1 h1 => by
    refine RunTo.opt (fun hb => ?_) (fun hb => ?_)
    · rw [hb]; exact h1.dis hz [[50], [48]] (by simp) (by decide) (by decide)
    · rw [hb]; show InB _ _ _ _ _ (_ ++ []); rw [List.append_nil]; exact h1)
  have R8 := RunTo.append R7 (b := ifL p.d12 (wD z [[50], [49]])) (R' := fun d' => InB z d0 d' ([[102, 48], [102, 49]] ++ ifL p.hasE [[101]] ++ [[102, 50]]) [[48], [49], [50]] (hsL z p ++ dsL z p)) (fun d1 h1 => by
    have e : hsL z p ++ dsL z p = hsL z p ++ ifL p.full [gvD z [[50], [48], [49]]] ++ ifL p.d01 [gvD z [[49], [48]]] ++ ifL p.d02 [gvD z [[50], [48]]] ++ ifL p.d12 [gvD z [[50], [49]]] := by unfold dsL; simp only [List.append_assoc]
    rw [e]
    refine RunTo.opt (fun hb => ?_) (fun hb => ?_)
    · rw [hb]; exact h1.dis hz [[50], [49]] (by simp) (by decide) (by decide)
    · rw [hb]; show InB _ _ _ _ _ (_ ++ []); rw [List.append_nil]; exact h1)
  refine RunTo.append R8 (fun d1 h1 => ?_)
  have := h1.st hz hn [98] (by decide) (by cases p.hasE <;> decide) (by decide) 97 4 (Or.inr (Or.inr ⟨rfl, rfl⟩)) p.gv (gv_mem p) (fun h => by cases h) (fun _ v hv => by rcases gv_mem p v hv with rfl | rfl | rfl <;> decide)
  refine this.mono (fun d' h' => ?_)
  rw [if_neg (by decide)] at h'
  have e : ([[102, 48], [102, 49]] ++ ifL p.hasE [[101]] ++ [[102, 50]]) ++ [[98]] = [[102, 48], [102, 49]] ++ ifL p.hasE [[101]] ++ ([[102, 50], [98]] : List (List UInt8)) := by simp
  rw [← e]
  exact h'

theorem endSts_app (l M : List St) : endSts (l ++ M) l.length = l ++ M.map (endSt (l ++ M).length) := by
  apply List.ext_getElem?
  intro i
  rw [endSts_get]
  by_cases h : i < l.length
  · rw [List.getElem?_append_left h, List.getElem?_append_left h]
    cases hs : l[i]? with
    | none => rfl
    | some s => simp only [Option.map_some]; rw [if_neg (by omega)]
  · rw [List.getElem?_append_right (by omega), List.getElem?_append_right (by omega), List.getElem?_map]
    cases hs : M[i - l.length]? with
    | none => rfl
    | some s =>
      have := (List.getElem?_eq_some_iff.1 hs).1
      simp only [Option.map_some]
      rw [if_pos ⟨by omega, by rw [List.length_append]; omega⟩]
theorem bare_end (n : Nat) (s : St) : bare (endSt n s) = endSt n (bare s) := by
  unfold endSt bare
  split <;> rfl
theorem bare_ends (n : Nat) (M : List St) : (M.map (endSt n)).map bare = (M.map bare).map (endSt n) := by
  rw [List.map_map, List.map_map]
  apply List.map_congr_left
  intro s _
  exact bare_end n s
/-- The statements of given, as they stand in the record. -/
def recL (z : ByteArray) (p : Gp) (n : Nat) : List St := (newL z p).map (endSt (n + (newL z p).length)) ++ [gvA z]
theorem free_eq {T z : ByteArray} {d0 d : Db} (hz : Zed T z) (hn : Nm (WdT T) d0) (ls : List (List UInt8)) (a : List UInt8) (hl : d.labels = d0.labels ++ ls.map (nm z)) (hc : d.constants = d0.constants ++ [nm z [99]]) (hv : d.variables = addVarsTo d0.variables ([[48], [49], [50]].map (nm z))) (h1 : ls.contains a = false) (h2 : (([99] : List UInt8) == a) = false) (h3 : ([[48], [49], [50]] : List (List UInt8)).contains a = false) : isTakenF d (nm z a) = false := by
  obtain ⟨n1, n2, n3, -, -⟩ := hz.not_has hn (sfx a)
  have e1 : hasF d0.labels (nm z a) = false := n1
  have e2 : hasF d0.constants (nm z a) = false := n2
  have e3 : hasF d0.variables (nm z a) = false := n3
  unfold isTakenF
  rw [hl, hc, hv, has_app, has_nm, has_app, has_one, nm_beq, has_vars, has_nm, e1, e2, e3, h1, h2, h3]
  rfl
theorem all_run (T z : ByteArray) (p : Gp) (hT : Fine T) (hz : Zed T z) : RunTo (wAll z p) (rdM T).2 (fun d' => openF d' = false ∧ ∃ M, d'.sts = (rdM T).2.sts ++ M ∧ M.map bare = recL z p (rdM T).2.sts.length) := by
  obtain ⟨hi, hb⟩ := hT.idle
  have hn := rdM_nmT T hT.size
  generalize (rdM T).2 = d at *
  obtain ⟨q1, q2⟩ := wd_nm hz [99] (by decide)
  obtain ⟨n1, n2, n3, -, -⟩ := hz.not_has hn (sfx [99])
  unfold wAll
  have R1 := run_c hi hb (nm z [99]) q1 (by unfold isTakenF nm; rw [n1, n2, n3]; rfl)
  have R2 := RunTo.append R1 (b := [kw 123]) (R' := fun d' => d' = { d with constants := d.constants ++ [nm z [99]], label := ⟨#[]⟩, blocks := d.blocks ++ [(d.active.length, d.typed.length)], rbl := d.rbl ++ [d.sts.length] }) (by
    rintro d1 rfl
    exact run_open (d := { d with constants := d.constants ++ [nm z [99]], label := ⟨#[]⟩ }) ⟨hi.kind, hi.syms, hi.prf, hi.pr⟩)
  have R3 := RunTo.append R2 (b := wBody z p) (R' := fun d' => InB z d d' ([[102, 48], [102, 49]] ++ ifL p.hasE [[101]] ++ [[102, 50], [98]]) [[48], [49], [50]] (newL z p)) (by
    rintro d1 rfl
    exact body_run T z d _ p hz hn ⟨hi.kind, hi.syms, hi.prf, hi.pr⟩ (by show d.blocks ++ _ = _; rw [hb]; rfl) rfl rfl rfl rfl rfl rfl rfl)
  have R4 := RunTo.append R3 (b := [kw 125]) (R' := fun d' => Idle d' ∧ d'.blocks = [] ∧ d'.labels = d.labels ++ (([[102, 48], [102, 49]] ++ ifL p.hasE [[101]] ++ [[102, 50], [98]] : List (List UInt8))).map (nm z) ∧ d'.constants = d.constants ++ [nm z [99]] ∧ d'.variables = addVarsTo d.variables ([[48], [49], [50]].map (nm z)) ∧ ∃ M, d'.sts = d.sts ++ M ∧ M.map bare = (newL z p).map (endSt (d.sts.length + (newL z p).length))) (by
    intro d1 h1
    refine (run_close h1.idle (d.active.length, d.typed.length) (by rw [h1.blk]; rfl)).mono ?_
    rintro d' rfl
    obtain ⟨M, hM, hN⟩ := h1.sts
    have hlast : d1.rbl.getLast? = some d.sts.length := by rw [h1.rbl]; simp
    unfold endBothF
    rw [hlast]
    refine ⟨⟨h1.idle.kind, h1.idle.syms, h1.idle.prf, h1.idle.pr⟩, ?_, h1.lab, h1.con, h1.var, M.map (endSt (d.sts ++ M).length), ?_, ?_⟩
    · show d1.blocks.dropLast = []
      rw [h1.blk]; rfl
    · show endSts d1.sts d.sts.length = _
      rw [hM, endSts_app]
    · have hl : M.length = (newL z p).length := by rw [← hN, List.length_map]
      rw [bare_ends, hN, List.length_append, hl])
  refine RunTo.append R4 (fun d1 h1 => ?_)
  obtain ⟨i1, i2, i3, i4, i5, M, i6, i7⟩ := h1
  obtain ⟨w1, w2⟩ := wd_nm hz [97] (by decide)
  have hfree := free_eq hz hn _ [97] i3 i4 i5 (by cases p.hasE <;> decide) (by decide) (by decide)
  refine (run_st i1 (nm z [97]) w1 w2 hfree 97 4 (Or.inr (Or.inr ⟨rfl, rfl⟩)) [nm z [99]] (fun y hy => by rw [List.mem_singleton.1 hy]; exact q1) (by simp) (fun h => by cases h) ?_).mono ?_
  · intro pre y post he
    have hp : pre = [] := by
      cases pre with
      | nil => rfl
      | cons a pre => simp at he
    subst hp
    have hy : y = nm z [99] ∧ post = [] := by simpa using he.symm
    obtain ⟨rfl, -⟩ := hy
    unfold checkSymbolF
    rw [if_neg (show ¬ ((4 : Int) == 7) = true by decide), if_neg (show ¬ ((4 : Int) == 8) = true by decide), if_neg (show ¬ ((4 : Int) == 1) = true by decide), if_pos (by rfl)]
    unfold checkTypecodeF
    rw [if_neg]
    show ¬ hasF d1.constants (nm z [99]) = false
    rw [i4, has_last]; simp
  · rintro d' ⟨q, rfl⟩
    refine ⟨?_, M ++ [⟨4, nm z [97], [nm z [99]], [], q, 0⟩], ?_, ?_⟩
    · show openF { d1 with kind := d1.kind, blocks := d1.blocks } = false
      unfold openF
      rw [i1.kind, i2]; rfl
    · show d1.sts ++ _ = _
      rw [i6]; simp
    · rw [List.map_append, i7]; rfl

end Go.Proofs.YtcipkfhpcbddiaaGreat

/- Frames behind a closed text: what its own statements give, and what new ones give. No walk. -/
namespace Go.Proofs.YtcipkfhpcbddiaaGreat
open Go.RowKit

def TilOk (l : List St) : Prop := ∀ s ∈ l, s.til ≤ l.length
theorem til_end {l : List St} (h : TilOk l) (y : Nat) : TilOk (endSts l y) := by
  intro s hs
  obtain ⟨i, hi⟩ := List.getElem?_of_mem hs
  rw [endSts_len]
  rw [endSts_get] at hi
  cases hl : l[i]? with
  | none => rw [hl] at hi; cases hi
  | some s' =>
    rw [hl] at hi
    simp only [Option.map_some, Option.some.injEq] at hi
    have h' := h s' (List.mem_of_getElem? hl)
    subst hi
    split
    · unfold endSt; split
      · exact Nat.le_refl _
      · exact h'
    · exact h'
theorem til_take {d : Db} (h : TilOk d.sts) (x : ByteArray) (p : Pl) : TilOk (takeF d x p).2.sts := by
  rcases take_sts d x p with e | ⟨y, -, e⟩ | ⟨e, -⟩
  · rw [e]; exact h
  · rw [e]; exact til_end h y
  · rw [e]
    intro s hs
    rw [List.length_append]
    rcases List.mem_append.1 hs with hs | hs
    · have := h s hs; omega
    · rw [List.mem_singleton.1 hs]; simp
theorem til_read (n s : ByteArray) (f : Nat) : ∀ k d, TilOk d.sts → TilOk (readTo n s f k d).2.sts := by
  induction f with
  | zero => intro k d h; exact h
  | succ f ih =>
    intro k d h
    rw [readTo]
    split
    · split
      · exact ih _ _ (til_take h _ _)
      · exact til_take h _ _
    · split
      · split <;> exact h
      · exact h
theorem rdM_til (T : ByteArray) : TilOk (rdM T).2.sts := til_read _ _ _ 0 emptyDb (by intro s hs; simp [emptyDb] at hs)

/-- Places and proofs count for nothing in a frame. -/
theorem held_bare (R : List St) (n a : Nat) : heldF (R.map bare) n a = heldF R n a := by
  unfold heldF; rw [List.getElem?_map]; cases R[n]? <;> rfl
theorem syms_bare (R : List St) (n : Nat) : symsAt (R.map bare) n = symsAt R n := by
  unfold symsAt; rw [List.getElem?_map]; cases R[n]? <;> rfl
theorem ess_bare (R : List St) (a n : Nat) : essF (R.map bare) a n = essF R a n := by
  unfold essF; rw [List.getElem?_map, held_bare]; cases R[n]? <;> rfl
theorem symsOf_bare (R : List St) (a : Nat) : symsOfF (R.map bare) a = symsOfF R a := by
  unfold symsOfF symsTo
  rw [syms_bare, List.length_map]
  congr 1
  rw [show essF (R.map bare) a = essF R a from funext (ess_bare R a), show symsAt (R.map bare) = symsAt R from funext (syms_bare R)]
theorem mand_bare (R : List St) (S : List ByteArray) (a n : Nat) : mandAt (R.map bare) S a n = mandAt R S a n := by
  unfold mandAt; rw [List.getElem?_map, held_bare]; cases R[n]? <;> rfl
theorem hyps_bare (R : List St) (a : Nat) : hypsF (R.map bare) a = hypsF R a := by
  unfold hypsF hypsTo
  rw [symsOf_bare, List.length_map]
  rw [show mandAt (R.map bare) (symsOfF R a) a = mandAt R (symsOfF R a) a from funext (mand_bare R _ a)]
theorem vars_bare (R : List St) (hs : List Nat) : varsOfF (R.map bare) hs = varsOfF R hs := by
  unfold varsOfF
  rw [show varOne (R.map bare) = varOne R from funext (fun n => by unfold varOne; rw [List.getElem?_map]; cases R[n]? <;> rfl)]
theorem disj_bare (R : List St) (a n : Nat) : disjF (R.map bare) a n = disjF R a n := by
  unfold disjF; rw [List.getElem?_map, held_bare]; cases R[n]? <;> rfl
theorem marksTo_bare (R : List St) (a : Nat) (vs : List ByteArray) (k : Nat) : marksTo (R.map bare) a vs k = marksTo R a vs k := by
  induction k with
  | zero => rfl
  | succ k ih => rw [marksTo, marksTo, ih, disj_bare, syms_bare]
theorem line_bare (R : List St) (n : Nat) : lineN (R.map bare) n = lineN R n := by
  unfold lineN; rw [List.getElem?_map]; cases R[n]? <;> rfl
theorem lines_bare (R : List St) (a : Nat) : linesF (R.map bare) a = linesF R a := by
  unfold linesF pairsF marksF
  rw [hyps_bare, vars_bare, List.length_map, marksTo_bare, line_bare, show lineN (R.map bare) = lineN R from funext (line_bare R)]

/-- Two positions stand together in a $d that is active. -/
def togF (R : List St) (a : Nat) (vs : List ByteArray) (k i j : Nat) : Bool := (List.range k).any (fun n => disjF R a n && (positionsF vs (symsAt R n)).contains i && (positionsF vs (symsAt R n)).contains j)
theorem markRow_get (side mi : Nat) (mem : List Nat) (ms : List Bool) (q : Nat) (hq : q < ms.length) : (markRow side mi mem ms).getD q false = (ms.getD q false || mem.any (fun mj => mi * side + mj == q)) := by
  unfold markRow
  induction mem generalizing ms with
  | nil => simp
  | cons m mem ih =>
    simp only [List.foldl_cons, List.any_cons]
    rw [ih (ms.set (mi * side + m) true) (by simpa using hq)]
    by_cases e : mi * side + m = q
    · subst e
      rw [List.getD_eq_getElem?_getD, List.getElem?_set_self hq]
      simp
    · have e2 : (mi * side + m == q) = false := by rw [beq_eq_false_iff_ne]; exact e
      rw [List.getD_eq_getElem?_getD, List.getElem?_set_ne e, ← List.getD_eq_getElem?_getD, e2, Bool.false_or]
theorem markAll_get (side : Nat) (mem r : List Nat) (ms : List Bool) (q : Nat) (hq : q < ms.length) : (r.foldl (fun ms mi => markRow side mi mem ms) ms).getD q false = (ms.getD q false || r.any (fun mi => mem.any (fun mj => mi * side + mj == q))) := by
  induction r generalizing ms with
  | nil => simp
  | cons m r ih =>
    simp only [List.foldl_cons, List.any_cons]
    rw [ih (markRow side m mem ms) (by rw [markRow_len]; exact hq), markRow_get side m mem ms q hq, Bool.or_assoc]
theorem pair_unique {side i j a b : Nat} (hb : b < side) (hj : j < side) (h : a * side + b = i * side + j) : a = i ∧ b = j := by
  have h1 : (a * side + b) / side = a := by rw [Nat.mul_comm, Nat.mul_add_div (by omega)]; rw [Nat.div_eq_of_lt hb]; omega
  have h2 : (i * side + j) / side = i := by rw [Nat.mul_comm, Nat.mul_add_div (by omega)]; rw [Nat.div_eq_of_lt hj]; omega
  rw [h] at h1
  have : a = i := by omega
  subst this
  exact ⟨rfl, by omega⟩
theorem marks_get (R : List St) (a : Nat) (vs : List ByteArray) (k i j : Nat) (hi : i < vs.length) (hj : j < vs.length) : (marksTo R a vs k).getD (i * vs.length + j) false = togF R a vs k i j := by
  have hq : i * vs.length + j < vs.length * vs.length := square_lt hi hj
  induction k with
  | zero =>
    unfold togF
    rw [marksTo, List.getD_eq_getElem?_getD, List.getElem?_replicate, if_pos hq]; rfl
  | succ k ih =>
    have hT : togF R a vs (k + 1) i j = (togF R a vs k i j || (disjF R a k && (positionsF vs (symsAt R k)).contains i && (positionsF vs (symsAt R k)).contains j)) := by
      unfold togF; rw [List.range_succ, List.any_append]; simp
    rw [hT, marksTo]
    cases hd : disjF R a k
    · simp only [Bool.false_eq_true, if_false, Bool.false_and, Bool.or_false]
      exact ih
    · simp only [if_true, Bool.true_and]
      unfold markAllF
      rw [markAll_get _ _ _ _ _ (by rw [marksTo_len]; exact hq), ih]
      congr 1
      rw [Bool.eq_iff_iff]
      simp only [List.any_eq_true, Bool.and_eq_true, List.contains_iff_mem, beq_iff_eq]
      constructor
      · rintro ⟨mi, h1, mj, h2, he⟩
        obtain ⟨i2, e2⟩ := List.getElem_of_mem h2
        have hlt := positions_lt vs (symsAt R k) i2 e2.1
        rw [e2.2] at hlt
        obtain ⟨rfl, rfl⟩ := pair_unique hlt hj he
        exact ⟨h1, h2⟩
      · rintro ⟨h1, h2⟩
        exact ⟨i, h1, j, h2, rfl⟩
theorem apart_tog (R : List St) (a : Nat) (vs : List ByteArray) (i j : Nat) (hi : i < vs.length) (hj : j < vs.length) : apartF vs.length (marksF R a vs) i j = (!(i == j) && togF R a vs R.length i j) := by
  unfold apartF marksF
  rw [marks_get R a vs R.length i j hi hj]

end Go.Proofs.YtcipkfhpcbddiaaGreat

/- Frames behind a closed text: the part of the text's own statements. No walk. -/
namespace Go.Proofs.YtcipkfhpcbddiaaGreat
open Go.RowKit

theorem range_split (m n : Nat) : List.range (m + n) = List.range m ++ (List.range n).map (m + ·) := List.range_add
/-- Of the text's own statements, behind it: which $e are active; their symbols; which hypotheses count; their variables. -/
def oE (l : List St) (n : Nat) : Bool := match l[n]? with | some s => (s.kind == 3) && (s.til == 0) | none => false
def oS (l : List St) : List ByteArray := ((List.range l.length).filter (oE l)).flatMap (symsAt l)
def oH (l : List St) (n : Nat) : Bool := match l[n]? with | some s => (s.til == 0) && mandF s (oS l) | none => false
def oHs (l : List St) : List Nat := (List.range l.length).filter (oH l)
def oV (l : List St) : List ByteArray := varsOfF l (oHs l)
def oD (l : List St) (n : Nat) : Bool := match l[n]? with | some s => (s.kind == 1) && (s.til == 0) | none => false
def oT (l : List St) (vs : List ByteArray) (i j : Nat) : Bool := (List.range l.length).any (fun n => oD l n && (positionsF vs (symsAt l n)).contains i && (positionsF vs (symsAt l n)).contains j)

/-- The names of the text, and new ones. -/
structure Own (T : ByteArray) (l : List St) : Prop where
  til : TilOk l
  syms : ∀ s ∈ l, ∀ x ∈ s.symbols, InT T x
def NewN (z : ByteArray) (L : List ByteArray) : Prop := ∀ x ∈ L, ∃ a, x = nm z a
theorem own_of (T : ByteArray) (hT : Fine T) : Own T (rdM T).2.sts := ⟨rdM_til T, fun s hs x hx => (((rdM_nmT T hT.size).sts s hs).syms x hx).2⟩
theorem nm_ne {T z : ByteArray} (hz : Zed T z) (v : ByteArray) (hv : InT T v) (a : List UInt8) : ((nm z a).toList == v.toList) = false := by
  cases e : ((nm z a).toList == v.toList)
  · rfl
  · exact absurd (InT.pre (y := sfx a) (by have := bytes_eq e; unfold nm at this; rw [this]; exact hv)) hz.fresh
theorem has_new {T z : ByteArray} (hz : Zed T z) (v : ByteArray) (hv : InT T v) (L : List ByteArray) (hL : NewN z L) : hasF L v = false := by
  unfold hasF
  rw [List.any_eq_false]
  intro x hx
  obtain ⟨a, rfl⟩ := hL x hx
  rw [nm_ne hz v hv a]; simp

theorem held_old {l N : List St} (ht : TilOk l) (n a : Nat) (hn : n < l.length) (ha : l.length ≤ a) : heldF (l ++ N) n a = (l[n].til == 0) := by
  unfold heldF
  rw [List.getElem?_append_left hn, List.getElem?_eq_getElem hn]
  have := ht _ (List.getElem_mem hn)
  have h1 : decide (n < a) = true := by simp; omega
  have h2 : decide (a < l[n].til) = false := by simp; omega
  simp only [h1, h2, Bool.true_and, Bool.or_false]
theorem ess_old {l N : List St} (ht : TilOk l) (n a : Nat) (hn : n < l.length) (ha : l.length ≤ a) : essF (l ++ N) a n = oE l n := by
  unfold essF oE
  rw [held_old ht n a hn ha, List.getElem?_append_left hn, List.getElem?_eq_getElem hn]
theorem disj_old {l N : List St} (ht : TilOk l) (n a : Nat) (hn : n < l.length) (ha : l.length ≤ a) : disjF (l ++ N) a n = oD l n := by
  unfold disjF oD
  rw [held_old ht n a hn ha, List.getElem?_append_left hn, List.getElem?_eq_getElem hn]
theorem symsAt_old (l N : List St) (n : Nat) (hn : n < l.length) : symsAt (l ++ N) n = symsAt l n := by
  unfold symsAt; rw [List.getElem?_append_left hn]
theorem symsAt_new (l N : List St) (j : Nat) : symsAt (l ++ N) (l.length + j) = symsAt N j := by
  unfold symsAt; rw [List.getElem?_append_right (by omega), Nat.add_sub_cancel_left]
theorem flat_congr {α : Type} (l : List Nat) (f g : Nat → List α) (h : ∀ x ∈ l, f x = g x) : l.flatMap f = l.flatMap g := by
  induction l with
  | nil => rfl
  | cons a l ih => rw [List.flatMap_cons, List.flatMap_cons, h a (by simp), ih (fun x hx => h x (List.mem_cons_of_mem _ hx))]
/-- The symbols of the new $e. -/
def nS (l N : List St) (a : Nat) : List ByteArray := ((List.range N.length).filter (fun j => essF (l ++ N) a (l.length + j))).flatMap (symsAt N)
theorem symsOf_split {l N : List St} (ht : TilOk l) (j0 : Nat) : symsOfF (l ++ N) (l.length + j0) = symsAt N j0 ++ (oS l ++ nS l N (l.length + j0)) := by
  unfold symsOfF symsTo
  rw [symsAt_new, List.length_append, range_split, List.filter_append, List.flatMap_append]
  congr 2
  · unfold oS
    have e : (List.range l.length).filter (essF (l ++ N) (l.length + j0)) = (List.range l.length).filter (oE l) := List.filter_congr (fun n hn => ess_old ht n _ (List.mem_range.1 hn) (by omega))
    rw [e]
    refine flat_congr _ _ _ (fun n hn => ?_)
    exact symsAt_old l N n (List.mem_range.1 (List.mem_filter.1 hn).1)
  · unfold nS
    rw [List.filter_map, List.flatMap_map]
    exact flat_congr _ _ _ (fun n _ => symsAt_new l N n)
theorem NewN.symsAt {z : ByteArray} {N : List St} (h : ∀ s ∈ N, NewN z s.symbols) (j : Nat) : NewN z (symsAt N j) := by
  unfold Go.Proofs.YtcipkfhpcbddiaaGreat.symsAt
  cases e : N[j]? with
  | none => intro x hx; simp at hx
  | some s => exact h s (List.mem_of_getElem? e)
theorem NewN.nS {z : ByteArray} {l N : List St} (h : ∀ s ∈ N, NewN z s.symbols) (a : Nat) : NewN z (nS l N a) := by
  intro x hx
  unfold Go.Proofs.YtcipkfhpcbddiaaGreat.nS at hx
  obtain ⟨j, -, hj⟩ := List.mem_flatMap.1 hx
  exact NewN.symsAt h j x hj
theorem var_in {T : ByteArray} {l : List St} (h : Own T l) (s : St) (hs : s ∈ l) (hk : (s.kind == 2) = true) (h2 : 2 ≤ s.symbols.length) : InT T (variableF s) := by
  unfold variableF
  rw [if_pos ⟨hk, h2⟩]
  refine h.syms s hs _ ?_
  rw [List.getD_eq_getElem?_getD, List.getElem?_eq_getElem (show 1 < s.symbols.length by omega)]
  exact List.getElem_mem _
/-- Every $f has its variable. -/
def TwoOk (l : List St) : Prop := ∀ s ∈ l, (s.kind == 2) = true → 2 ≤ s.symbols.length
theorem hyps_split {T z : ByteArray} {l N : List St} (hz : Zed T z) (h : Own T l) (h2 : TwoOk l) (hN : ∀ s ∈ N, NewN z s.symbols) (j0 : Nat) :
    hypsF (l ++ N) (l.length + j0) = oHs l ++ ((List.range N.length).filter (fun j => mandAt (l ++ N) (symsOfF (l ++ N) (l.length + j0)) (l.length + j0) (l.length + j))).map (l.length + ·) := by
  unfold hypsF hypsTo
  rw [List.length_append, range_split, List.filter_append, List.filter_map]
  congr 1
  unfold oHs
  refine List.filter_congr (fun n hn => ?_)
  have hn := List.mem_range.1 hn
  unfold mandAt oH
  rw [held_old h.til n _ hn (by omega), List.getElem?_append_left hn, List.getElem?_eq_getElem hn]
  simp only
  congr 1
  unfold mandF
  cases hk : (l[n].kind == 2)
  · rfl
  · simp only [if_true]
    have hv := var_in h _ (List.getElem_mem hn) hk (h2 _ (List.getElem_mem hn) hk)
    rw [symsOf_split h.til, has_app, has_app, has_new hz _ hv _ (NewN.symsAt hN j0), has_new hz _ hv _ (NewN.nS hN _), Bool.false_or, Bool.or_false]

theorem find_map {α β : Type} (f : α → β) (p : β → Bool) (l : List α) : (l.map f).find? p = (l.find? (p ∘ f)).map f := List.find?_map
theorem pos_left {V W : List ByteArray} {x : ByteArray} (h : ∀ y ∈ W, (y.toList == x.toList) = false) : posF (V ++ W) x = posF V x := by
  unfold posF
  rw [List.length_append, range_split, List.find?_append]
  have e1 : (List.range V.length).find? (fun i => ((V ++ W).getD i ⟨#[]⟩).toList == x.toList) = (List.range V.length).find? (fun i => (V.getD i ⟨#[]⟩).toList == x.toList) := by
    have : ∀ (q : List Nat), (∀ i ∈ q, i < V.length) → q.find? (fun i => ((V ++ W).getD i ⟨#[]⟩).toList == x.toList) = q.find? (fun i => (V.getD i ⟨#[]⟩).toList == x.toList) := by
      intro q hq
      induction q with
      | nil => rfl
      | cons a q ih =>
        have ha : (V ++ W).getD a ⟨#[]⟩ = V.getD a ⟨#[]⟩ := by rw [List.getD_eq_getElem?_getD, List.getD_eq_getElem?_getD, List.getElem?_append_left (hq a (by simp))]
        simp only [List.find?_cons, ha]
        rw [ih (fun i hi => hq i (List.mem_cons_of_mem _ hi))]
    exact this _ (fun i hi => List.mem_range.1 hi)
  have e2 : ((List.range W.length).map (V.length + ·)).find? (fun i => ((V ++ W).getD i ⟨#[]⟩).toList == x.toList) = none := by
    rw [List.find?_eq_none]
    intro i hi
    obtain ⟨j, hj, rfl⟩ := List.mem_map.1 hi
    have hj := List.mem_range.1 hj
    rw [List.getD_eq_getElem?_getD, List.getElem?_append_right (by omega), Nat.add_sub_cancel_left, List.getElem?_eq_getElem hj]
    have := h _ (List.getElem_mem hj)
    simpa using this
  rw [e1, e2]
  cases (List.range V.length).find? (fun i => (V.getD i ⟨#[]⟩).toList == x.toList) <;> rfl
theorem pos_right {V W : List ByteArray} {x : ByteArray} (h : ∀ y ∈ V, (y.toList == x.toList) = false) : posF (V ++ W) x = (posF W x).map (V.length + ·) := by
  unfold posF
  rw [List.length_append, range_split, List.find?_append]
  have e1 : (List.range V.length).find? (fun i => ((V ++ W).getD i ⟨#[]⟩).toList == x.toList) = none := by
    rw [List.find?_eq_none]
    intro i hi
    have hi := List.mem_range.1 hi
    rw [List.getD_eq_getElem?_getD, List.getElem?_append_left hi, List.getElem?_eq_getElem hi]
    have := h _ (List.getElem_mem hi)
    simpa using this
  rw [e1, Option.none_or, List.find?_map]
  congr 1
  congr 1
  funext j
  simp only [Function.comp]
  rw [List.getD_eq_getElem?_getD, List.getD_eq_getElem?_getD, List.getElem?_append_right (by omega), Nat.add_sub_cancel_left]
theorem fm_congr_b {α : Type} (l : List ByteArray) (p q : ByteArray → Option α) (h : ∀ x ∈ l, p x = q x) : l.filterMap p = l.filterMap q := by
  induction l with
  | nil => rfl
  | cons a l ih => rw [List.filterMap_cons, List.filterMap_cons, h a (by simp), ih (fun x hx => h x (List.mem_cons_of_mem _ hx))]
theorem positions_left {V W S : List ByteArray} (h : ∀ x ∈ S, ∀ y ∈ W, (y.toList == x.toList) = false) : positionsF (V ++ W) S = positionsF V S := by
  unfold positionsF
  exact fm_congr_b S _ _ (fun x hx => pos_left (h x hx))
theorem positions_right {V W S : List ByteArray} (h : ∀ x ∈ S, ∀ y ∈ V, (y.toList == x.toList) = false) : positionsF (V ++ W) S = (positionsF W S).map (V.length + ·) := by
  unfold positionsF
  rw [List.map_filterMap]
  exact fm_congr_b S _ _ (fun x hx => pos_right (h x hx))

end Go.Proofs.YtcipkfhpcbddiaaGreat

/- Frames behind a closed text: the lines, parted into the text's own and the new. No walk. -/
namespace Go.Proofs.YtcipkfhpcbddiaaGreat
open Go.RowKit

/-- All pairs i < j of which A holds. -/
def prL (vs : List ByteArray) (A : Nat → Nat → Bool) : List Pr := (List.range vs.length).flatMap (fun i => ((List.range vs.length).filter (fun j => decide (i < j) && A i j)).map (fun j => (gD vs i, gD vs j)))
theorem prL_congr (vs : List ByteArray) (A B : Nat → Nat → Bool) (h : ∀ i j, i < vs.length → j < vs.length → A i j = B i j) : prL vs A = prL vs B := by
  unfold prL
  refine flat_congr _ _ _ (fun i hi => ?_)
  have hi := List.mem_range.1 hi
  congr 1
  exact List.filter_congr (fun j hj => by rw [h i j hi (List.mem_range.1 hj)])
theorem prs_is (R : List St) (a : Nat) (vs : List ByteArray) : prsF vs (marksF R a vs) = prL vs (fun i j => !(i == j) && togF R a vs R.length i j) := by
  unfold prsF prTo prL prRow
  refine flat_congr _ _ _ (fun i hi => ?_)
  have hi := List.mem_range.1 hi
  congr 1
  exact List.filter_congr (fun j hj => by rw [apart_tog R a vs i j hi (List.mem_range.1 hj)])
theorem gD_left (V W : List ByteArray) (i : Nat) (h : i < V.length) : gD (V ++ W) i = gD V i := by
  unfold gD; rw [List.getD_eq_getElem?_getD, List.getD_eq_getElem?_getD, List.getElem?_append_left h]
theorem gD_right (V W : List ByteArray) (i : Nat) : gD (V ++ W) (V.length + i) = gD W i := by
  unfold gD; rw [List.getD_eq_getElem?_getD, List.getD_eq_getElem?_getD, List.getElem?_append_right (by omega), Nat.add_sub_cancel_left]
theorem prL_split (V W : List ByteArray) (A B C : Nat → Nat → Bool) (h1 : ∀ i j, i < V.length → j < V.length → A i j = B i j) (h2 : ∀ i j, i < V.length → j < W.length → A i (V.length + j) = false) (h3 : ∀ i j, i < W.length → j < W.length → A (V.length + i) (V.length + j) = C i j) : prL (V ++ W) A = prL V B ++ prL W C := by
  unfold prL
  rw [List.length_append, range_split, List.flatMap_append]
  congr 1
  · refine flat_congr _ _ _ (fun i hi => ?_)
    have hi := List.mem_range.1 hi
    rw [List.filter_append, List.map_append]
    have e1 : (List.range V.length).filter (fun j => decide (i < j) && A i j) = (List.range V.length).filter (fun j => decide (i < j) && B i j) := List.filter_congr (fun j hj => by rw [h1 i j hi (List.mem_range.1 hj)])
    have e2 : ((List.range W.length).map (V.length + ·)).filter (fun j => decide (i < j) && A i j) = [] := by
      rw [List.filter_eq_nil_iff]
      intro q hq
      obtain ⟨j, hj, rfl⟩ := List.mem_map.1 hq
      rw [h2 i j hi (List.mem_range.1 hj)]; simp
    rw [e1, e2, List.map_nil, List.append_nil]
    apply List.map_congr_left
    intro j hj
    have hj := List.mem_range.1 (List.mem_filter.1 hj).1
    rw [gD_left V W i hi, gD_left V W j hj]
  · rw [List.flatMap_map]
    refine flat_congr _ _ _ (fun i hi => ?_)
    have hi := List.mem_range.1 hi
    rw [List.filter_append, List.map_append]
    have e1 : (List.range V.length).filter (fun j => decide (V.length + i < j) && A (V.length + i) j) = [] := by
      rw [List.filter_eq_nil_iff]
      intro j hj
      have := List.mem_range.1 hj
      simp; omega
    rw [e1, List.map_nil, List.nil_append, List.filter_map, List.map_map]
    have e2 : (List.range W.length).filter ((fun j => decide (V.length + i < j) && A (V.length + i) j) ∘ (V.length + ·)) = (List.range W.length).filter (fun j => decide (i < j) && C i j) := List.filter_congr (fun j hj => by
      simp only [Function.comp]
      rw [h3 i j hi (List.mem_range.1 hj)]
      congr 1
      exact decide_eq_decide.2 (by omega))
    rw [e2]
    apply List.map_congr_left
    intro j _
    simp only [Function.comp, gD_right]
theorem pos_lt_mem {vs S : List ByteArray} {i : Nat} (h : (positionsF vs S).contains i = true) : i < vs.length := by
  have hm : i ∈ positionsF vs S := List.contains_iff_mem.1 h
  obtain ⟨k, hk, e⟩ := List.getElem_of_mem hm
  have := positions_lt vs S k hk
  rw [e] at this; exact this
theorem cont_far {vs S : List ByteArray} {i : Nat} (h : vs.length ≤ i) : (positionsF vs S).contains i = false := by
  cases e : (positionsF vs S).contains i
  · rfl
  · have := pos_lt_mem e; omega
theorem cont_map (L : List Nat) (m i : Nat) : ((L.map (m + ·)).contains (m + i)) = L.contains i := by
  rw [Bool.eq_iff_iff, List.contains_iff_mem, List.contains_iff_mem, List.mem_map]
  constructor
  · rintro ⟨a, h, e⟩
    have : a = i := by omega
    rw [← this]; exact h
  · intro h; exact ⟨i, h, rfl⟩
theorem cont_map_low (L : List Nat) (m i : Nat) (h : i < m) : ((L.map (m + ·)).contains i) = false := by
  cases e : (L.map (m + ·)).contains i
  · rfl
  · obtain ⟨a, -, he⟩ := List.mem_map.1 (List.contains_iff_mem.1 e)
    omega
/-- Two of the new variables stand together. -/
def nT (l N : List St) (a : Nat) (W : List ByteArray) (i j : Nat) : Bool := (List.range N.length).any (fun n => disjF (l ++ N) a (l.length + n) && (positionsF W (symsAt N n)).contains i && (positionsF W (symsAt N n)).contains j)
theorem any_map {α β : Type} (l : List α) (f : α → β) (p : β → Bool) : (l.map f).any p = l.any (fun x => p (f x)) := by rw [List.any_map]; rfl
theorem any_congr (l : List Nat) (p q : Nat → Bool) (h : ∀ x ∈ l, p x = q x) : l.any p = l.any q := by
  induction l with
  | nil => rfl
  | cons a l ih => rw [List.any_cons, List.any_cons, h a (by simp), ih (fun x hx => h x (List.mem_cons_of_mem _ hx))]
theorem any_none (l : List Nat) (p : Nat → Bool) (h : ∀ x ∈ l, p x = false) : l.any p = false := by
  rw [List.any_eq_false]; intro x hx; rw [h x hx]; simp
theorem tog_split {T z : ByteArray} {l N : List St} (hz : Zed T z) (h : Own T l) (hN : ∀ s ∈ N, NewN z s.symbols) (a : Nat) (ha : l.length ≤ a) (V W : List ByteArray) (hV : ∀ v ∈ V, InT T v) (hW : NewN z W) :
    (∀ i j, i < V.length → j < V.length → togF (l ++ N) a (V ++ W) (l ++ N).length i j = oT l V i j) ∧ (∀ i j, i < V.length → j < W.length → togF (l ++ N) a (V ++ W) (l ++ N).length i (V.length + j) = false) ∧ (∀ i j, i < W.length → j < W.length → togF (l ++ N) a (V ++ W) (l ++ N).length (V.length + i) (V.length + j) = nT l N a W i j) := by
  have hS : ∀ n, n < l.length → positionsF (V ++ W) (symsAt l n) = positionsF V (symsAt l n) := fun n hn => positions_left (fun x hx y hy => by
    obtain ⟨b, rfl⟩ := hW y hy
    refine nm_ne hz x ?_ b
    unfold symsAt at hx
    rw [List.getElem?_eq_getElem hn] at hx
    exact h.syms _ (List.getElem_mem hn) x hx)
  have hS2 : ∀ n, positionsF (V ++ W) (symsAt N n) = (positionsF W (symsAt N n)).map (V.length + ·) := fun n => positions_right (fun x hx y hy => by
    obtain ⟨b, rfl⟩ := NewN.symsAt hN n x hx
    have e := nm_ne hz y (hV y hy) b
    rw [show (y.toList == (nm z b).toList) = ((nm z b).toList == y.toList) from BEq.comm]
    exact e)
  have hspl : ∀ i j, togF (l ++ N) a (V ++ W) (l ++ N).length i j = ((List.range l.length).any (fun n => oD l n && (positionsF V (symsAt l n)).contains i && (positionsF V (symsAt l n)).contains j) || (List.range N.length).any (fun n => disjF (l ++ N) a (l.length + n) && ((positionsF W (symsAt N n)).map (V.length + ·)).contains i && ((positionsF W (symsAt N n)).map (V.length + ·)).contains j)) := by
    intro i j
    unfold togF
    rw [List.length_append, range_split, List.any_append, any_map]
    congr 1
    · refine any_congr _ _ _ (fun n hn => ?_)
      have hn := List.mem_range.1 hn
      rw [disj_old h.til n a hn ha, symsAt_old l N n hn, hS n hn]
    · refine any_congr _ _ _ (fun n hn => ?_)
      rw [symsAt_new, hS2]
  refine ⟨fun i j hi hj => ?_, fun i j hi hj => ?_, fun i j hi hj => ?_⟩
  · rw [hspl, any_none (List.range N.length) _ (fun n _ => by rw [cont_map_low _ _ i hi]; simp), Bool.or_false]; rfl
  · rw [hspl, any_none (List.range l.length) _ (fun n _ => by rw [cont_far (vs := V) (i := V.length + j) (by omega)]; simp), any_none (List.range N.length) _ (fun n _ => by rw [cont_map_low _ _ i hi]; simp)]; rfl
  · rw [hspl, any_none (List.range l.length) _ (fun n _ => by rw [cont_far (vs := V) (i := V.length + j) (by omega)]; simp), Bool.false_or]
    unfold nT
    exact any_congr _ _ _ (fun n _ => by rw [cont_map, cont_map])
/-- The new hypotheses at j0. -/
def nH (l N : List St) (j0 : Nat) : List Nat := (List.range N.length).filter (fun j => mandAt (l ++ N) (symsOfF (l ++ N) (l.length + j0)) (l.length + j0) (l.length + j))
def oP (l : List St) : List Pr := prL (oV l) (fun i j => !(i == j) && oT l (oV l) i j)
def nP (l N : List St) (j0 : Nat) : List Pr := prL (varsOfF N (nH l N j0)) (fun i j => !(i == j) && nT l N (l.length + j0) (varsOfF N (nH l N j0)) i j)
theorem vars_split (l N : List St) (hs ns : List Nat) (h : ∀ n ∈ hs, n < l.length) : varsOfF (l ++ N) (hs ++ ns.map (l.length + ·)) = varsOfF l hs ++ varsOfF N ns := by
  unfold varsOfF
  rw [List.filterMap_append, List.filterMap_map]
  congr 1
  · exact fm_congr _ _ _ (fun n hn => by unfold varOne; rw [List.getElem?_append_left (h n hn)])
  · refine fm_congr _ _ _ (fun n _ => ?_)
    simp only [Function.comp]
    unfold varOne
    rw [List.getElem?_append_right (by omega), Nat.add_sub_cancel_left]
theorem var_new {z : ByteArray} {N : List St} (hN : ∀ s ∈ N, NewN z s.symbols) (h2 : TwoOk N) (ns : List Nat) : NewN z (varsOfF N ns) := by
  intro x hx
  unfold varsOfF at hx
  obtain ⟨n, -, he⟩ := List.mem_filterMap.1 hx
  unfold varOne at he
  cases hs : N[n]? with
  | none => rw [hs] at he; cases he
  | some s =>
    rw [hs] at he
    simp only at he
    split at he
    · next hk =>
      cases he
      have hm := List.mem_of_getElem? hs
      have hl := h2 s hm hk
      unfold variableF
      rw [if_pos ⟨hk, hl⟩]
      refine hN s hm _ ?_
      rw [List.getD_eq_getElem?_getD, List.getElem?_eq_getElem (show 1 < s.symbols.length by omega)]
      exact List.getElem_mem _
    · cases he
theorem oV_in {T : ByteArray} {l : List St} (h : Own T l) (h2 : TwoOk l) : ∀ v ∈ oV l, InT T v := by
  intro x hx
  unfold oV varsOfF at hx
  obtain ⟨n, -, he⟩ := List.mem_filterMap.1 hx
  unfold varOne at he
  cases hs : l[n]? with
  | none => rw [hs] at he; cases he
  | some s =>
    rw [hs] at he
    simp only at he
    split at he
    · next hk =>
      cases he
      exact var_in h s (List.mem_of_getElem? hs) hk (h2 s (List.mem_of_getElem? hs) hk)
    · cases he
theorem lines_split {T z : ByteArray} {l N : List St} (hz : Zed T z) (h : Own T l) (h2 : TwoOk l) (hN : ∀ s ∈ N, NewN z s.symbols) (h3 : TwoOk N) (j0 : Nat) :
    hypsF (l ++ N) (l.length + j0) = oHs l ++ (nH l N j0).map (l.length + ·) ∧
    linesF (l ++ N) (l.length + j0) = ((oHs l).map (lineN l) ++ (nH l N j0).map (lineN N)) ++ ((oP l).map pairLine ++ (nP l N j0).map pairLine) ++ [lineN N j0] := by
  have hh := hyps_split hz h h2 hN j0
  refine ⟨hh, ?_⟩
  have hlt : ∀ n ∈ oHs l, n < l.length := fun n hn => List.mem_range.1 (List.mem_filter.1 hn).1
  have hv : varsOfF (l ++ N) (hypsF (l ++ N) (l.length + j0)) = oV l ++ varsOfF N (nH l N j0) := by rw [hh]; exact vars_split l N _ _ hlt
  have hp : pairsF (l ++ N) (l.length + j0) = oP l ++ nP l N j0 := by
    unfold pairsF
    rw [hv, prs_is]
    obtain ⟨t1, t2, t3⟩ := tog_split hz h hN (l.length + j0) (by omega) (oV l) (varsOfF N (nH l N j0)) (oV_in h h2) (var_new hN h3 _)
    refine prL_split _ _ _ _ _ (fun i j hi hj => by rw [t1 i j hi hj]) (fun i j hi hj => by rw [t2 i j hi hj]; simp) (fun i j hi hj => ?_)
    rw [t3 i j hi hj]
    congr 1
    congr 1
    rw [Bool.eq_iff_iff]
    simp
  have e1 : lineN (l ++ N) (l.length + j0) = lineN N j0 := by unfold lineN; rw [List.getElem?_append_right (by omega), Nat.add_sub_cancel_left]
  unfold linesF
  rw [hp, hh, List.map_append, List.map_append, List.map_map, e1]
  congr 3
  · exact List.map_congr_left (fun n hn => by unfold lineN; rw [List.getElem?_append_left (hlt n hn)])
  · refine List.map_congr_left (fun n _ => ?_)
    simp only [Function.comp]
    unfold lineN
    rw [List.getElem?_append_right (by omega), Nat.add_sub_cancel_left]

end Go.Proofs.YtcipkfhpcbddiaaGreat

/- Frames of given's own statements: lists by position made lists. No walk. -/
namespace Go.Proofs.YtcipkfhpcbddiaaGreat
open Go.RowKit

def stQ : St := ⟨0, ⟨#[]⟩, [], [], noPl, 0⟩
theorem getD_lt (N : List St) (j : Nat) (h : j < N.length) : N.getD j stQ = N[j] := by
  rw [List.getD_eq_getElem?_getD, List.getElem?_eq_getElem h]; rfl
theorem range_getD (H : List St) : (List.range H.length).map (fun j => H.getD j stQ) = H := by
  apply List.ext_getElem
  · simp
  · intro i h1 h2
    rw [List.getElem_map, List.getElem_range, getD_lt H i h2]
theorem pickL (H R : List St) (P : Nat → Bool) (q : St → Bool) (h1 : ∀ j (hj : j < H.length), P j = q H[j]) (h2 : ∀ j, H.length ≤ j → P j = false) : ((List.range (H ++ R).length).filter P).map (fun j => (H ++ R).getD j stQ) = H.filter q := by
  rw [List.length_append, range_split, List.filter_append, List.map_append]
  have e0 : ((List.range R.length).map (H.length + ·)).filter P = [] := by
    rw [List.filter_eq_nil_iff]
    intro x hx
    obtain ⟨j, -, rfl⟩ := List.mem_map.1 hx
    rw [h2 _ (by omega)]; simp
  have e1 : (List.range H.length).filter P = (List.range H.length).filter (q ∘ (fun j => H.getD j stQ)) := List.filter_congr (fun j hj => by
    have hj := List.mem_range.1 hj
    rw [h1 j hj]; simp only [Function.comp]; rw [getD_lt H j hj])
  rw [e0, List.map_nil, List.append_nil, e1]
  have e2 : ((List.range H.length).filter (q ∘ (fun j => H.getD j stQ))).map (fun j => (H ++ R).getD j stQ) = ((List.range H.length).filter (q ∘ (fun j => H.getD j stQ))).map (fun j => H.getD j stQ) := by
    apply List.map_congr_left
    intro j hj
    have hj := List.mem_range.1 (List.mem_filter.1 hj).1
    rw [getD_lt H j hj, getD_lt _ j (by rw [List.length_append]; omega), List.getElem_append_left hj]
  rw [e2, ← List.filter_map, range_getD]

theorem held_new (l N : List St) (j j0 : Nat) : heldF (l ++ N) (l.length + j) (l.length + j0) = match N[j]? with | some s => decide (j < j0) && (s.til == 0 || decide (l.length + j0 < s.til)) | none => false := by
  unfold heldF
  rw [List.getElem?_append_right (by omega), Nat.add_sub_cancel_left]
  cases N[j]? with
  | none => rfl
  | some s =>
    simp only
    congr 1
    exact decide_eq_decide.2 (by omega)
theorem new_at (l N : List St) (j : Nat) : (l ++ N)[l.length + j]? = N[j]? := by rw [List.getElem?_append_right (by omega), Nat.add_sub_cancel_left]

/-- At a place where nothing new is held but assertions: only the text's own. -/
theorem nH_quiet (l N : List St) (j0 : Nat) (h : ∀ j s, N[j]? = some s → heldF (l ++ N) (l.length + j) (l.length + j0) = true → s.kind = 4) : nH l N j0 = [] := by
  unfold nH
  rw [List.filter_eq_nil_iff]
  intro j hj
  have hj := List.mem_range.1 hj
  unfold mandAt
  rw [new_at, List.getElem?_eq_getElem hj]
  simp only
  cases hh : heldF (l ++ N) (l.length + j) (l.length + j0)
  · simp
  · have := h j _ (List.getElem?_eq_getElem hj) hh
    unfold mandF
    rw [this]; simp
theorem lines_quiet {T z : ByteArray} {l N : List St} (hz : Zed T z) (h : Own T l) (h2 : TwoOk l) (hN : ∀ s ∈ N, NewN z s.symbols) (h3 : TwoOk N) (j0 : Nat) (hq : ∀ j s, N[j]? = some s → heldF (l ++ N) (l.length + j) (l.length + j0) = true → s.kind = 4) :
    hypsF (l ++ N) (l.length + j0) = oHs l ∧ linesF (l ++ N) (l.length + j0) = (oHs l).map (lineN l) ++ (oP l).map pairLine ++ [lineN N j0] := by
  obtain ⟨a, b⟩ := lines_split hz h h2 hN h3 j0
  have e := nH_quiet l N j0 hq
  have e2 : nP l N j0 = [] := by unfold nP prL; rw [e]; rfl
  rw [e] at a b
  rw [e2] at b
  rw [a, b]
  simp

/-- At the end of statements that are all held. -/
structure AllHeld (l H : List St) : Prop where
  held : ∀ s ∈ H, (s.til == 0 || decide (l.length + H.length < s.til)) = true
def varS (s : St) : Option ByteArray := if (s.kind == 2) = true then some (variableF s) else none
theorem held_at {l H R : List St} (h : AllHeld l H) (j : Nat) (hj : j < H.length) : heldF (l ++ (H ++ R)) (l.length + j) (l.length + H.length) = true := by
  rw [held_new, List.getElem?_append_left hj, List.getElem?_eq_getElem hj]
  simp only
  rw [h.held _ (List.getElem_mem hj)]
  simpa using hj
theorem held_past (l H R : List St) (j : Nat) (hj : H.length ≤ j) : heldF (l ++ (H ++ R)) (l.length + j) (l.length + H.length) = false := by
  rw [held_new]
  cases (H ++ R)[j]? with
  | none => rfl
  | some s => simp only; rw [show decide (j < H.length) = false by simpa using hj]; rfl
theorem nS_new {l H R : List St} (h : AllHeld l H) : nS l (H ++ R) (l.length + H.length) = (H.filter (fun s => s.kind == 3)).flatMap (·.symbols) := by
  unfold nS
  have e := pickL H R (fun j => essF (l ++ (H ++ R)) (l.length + H.length) (l.length + j)) (fun s => s.kind == 3) (fun j hj => by
    unfold essF
    rw [new_at, List.getElem?_append_left hj, List.getElem?_eq_getElem hj, held_at h j hj]
    simp) (fun j hj => by
    unfold essF
    rw [held_past l H R j hj]
    cases (l ++ (H ++ R))[l.length + j]? <;> simp)
  rw [← e, List.flatMap_map]
  refine flat_congr _ _ _ (fun j hj => ?_)
  have hj := List.mem_range.1 (List.mem_filter.1 hj).1
  unfold symsAt
  rw [getD_lt _ j hj, List.getElem?_eq_getElem hj]
theorem nH_new {l H R : List St} (h : AllHeld l H) : (nH l (H ++ R) H.length).map (fun j => (H ++ R).getD j stQ) = H.filter (fun s => mandF s (symsOfF (l ++ (H ++ R)) (l.length + H.length))) := by
  unfold nH
  exact pickL H R _ _ (fun j hj => by
    unfold mandAt
    rw [new_at, List.getElem?_append_left hj, List.getElem?_eq_getElem hj, held_at h j hj]
    simp) (fun j hj => by
    unfold mandAt
    rw [held_past l H R j hj]
    cases (l ++ (H ++ R))[l.length + j]? <;> simp)
theorem nH_lt (l N : List St) (j0 : Nat) : ∀ j ∈ nH l N j0, j < N.length := fun _ hj => List.mem_range.1 (List.mem_filter.1 hj).1
theorem map_lines (N : List St) (L : List Nat) (h : ∀ j ∈ L, j < N.length) : L.map (lineN N) = (L.map (fun j => N.getD j stQ)).map lineF := by
  rw [List.map_map]
  apply List.map_congr_left
  intro j hj
  simp only [Function.comp]
  unfold lineN
  rw [getD_lt N j (h j hj), List.getElem?_eq_getElem (h j hj)]
theorem map_vars (N : List St) (L : List Nat) (h : ∀ j ∈ L, j < N.length) : varsOfF N L = (L.map (fun j => N.getD j stQ)).filterMap varS := by
  unfold varsOfF
  rw [List.filterMap_map]
  refine fm_congr _ _ _ (fun j hj => ?_)
  simp only [Function.comp]
  unfold varOne varS
  rw [getD_lt N j (h j hj), List.getElem?_eq_getElem (h j hj)]
theorem nT_new {l H R : List St} (h : AllHeld l H) (W : List ByteArray) (i j : Nat) : nT l (H ++ R) (l.length + H.length) W i j = (H.filter (fun s => s.kind == 1)).any (fun s => (positionsF W s.symbols).contains i && (positionsF W s.symbols).contains j) := by
  unfold nT
  have e := pickL H R (fun n => disjF (l ++ (H ++ R)) (l.length + H.length) (l.length + n)) (fun s => s.kind == 1) (fun j hj => by
    unfold disjF
    rw [new_at, List.getElem?_append_left hj, List.getElem?_eq_getElem hj, held_at h j hj]
    simp) (fun j hj => by
    unfold disjF
    rw [held_past l H R j hj]
    cases (l ++ (H ++ R))[l.length + j]? <;> simp)
  rw [← e, any_map, List.any_filter]
  refine any_congr _ _ _ (fun n hn => ?_)
  have hn := List.mem_range.1 hn
  have es : symsAt (H ++ R) n = ((H ++ R).getD n stQ).symbols := by unfold symsAt; rw [getD_lt _ n hn, List.getElem?_eq_getElem hn]
  rw [es, Bool.and_assoc]

end Go.Proofs.YtcipkfhpcbddiaaGreat
