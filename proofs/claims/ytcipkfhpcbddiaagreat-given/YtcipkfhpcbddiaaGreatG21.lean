/- Our texts: Gv2, Fr1, Spl, Fr2, Fr3, Fr4. -/
import Derived.Test.YtcipkfhpcbddiaaGreatG12
import Derived.Test.YtcipkfhpcbddiaaGreatG20
/- Whole statements, word by word: what each leaves of the database. No walk. -/
namespace Go.Proofs.YtcipkfhpcbddiaaGreat
open Go.RowKit

/-- Whatever the places: the words are taken without a fault, and leave a database of which this holds. -/
def RunTo (ws : List ByteArray) (d : Db) (R : Db → Prop) : Prop := ∀ l : List (ByteArray × Pl), l.map (·.1) = ws → ∃ d', runL l d = some d' ∧ R d'
theorem RunTo.nil {d : Db} {R : Db → Prop} (h : R d) : RunTo [] d R := by
  intro l hl
  have : l = [] := List.map_eq_nil_iff.1 hl
  subst this
  exact ⟨d, rfl, h⟩
theorem RunTo.mono {ws : List ByteArray} {d : Db} {R R' : Db → Prop} (h : RunTo ws d R) (hr : ∀ d', R d' → R' d') : RunTo ws d R' := by
  intro l hl
  obtain ⟨d', h1, h2⟩ := h l hl
  exact ⟨d', h1, hr d' h2⟩
theorem RunTo.append {a b : List ByteArray} {d : Db} {R R' : Db → Prop} (h : RunTo a d R) (h2 : ∀ d1, R d1 → RunTo b d1 R') : RunTo (a ++ b) d R' := by
  intro l hl
  have e : l = l.take a.length ++ l.drop a.length := (List.take_append_drop _ _).symm
  have e1 : (l.take a.length).map (·.1) = a := by rw [List.map_take, hl]; simp
  have e2 : (l.drop a.length).map (·.1) = b := by rw [List.map_drop, hl]; simp
  obtain ⟨d1, h3, h4⟩ := h _ e1
  obtain ⟨d', h5, h6⟩ := h2 d1 h4 _ e2
  refine ⟨d', ?_, h6⟩
  rw [e, runL_append, h3]; exact h5
theorem RunTo.one {x : ByteArray} {d : Db} {R : Db → Prop} (h : ∀ p, (takeF d x p).1 = 0 ∧ R (takeF d x p).2) : RunTo [x] d R := by
  intro l hl
  match l, hl with
  | [(y, p)], hl =>
    have : y = x := by simpa using hl
    subst this
    refine ⟨_, ?_, (h p).2⟩
    simp only [runL, (h p).1]; rfl
theorem RunTo.cons {x : ByteArray} {b : List ByteArray} {d : Db} {R R' : Db → Prop} (h : ∀ p, (takeF d x p).1 = 0 ∧ R (takeF d x p).2) (h2 : ∀ d1, R d1 → RunTo b d1 R') : RunTo (x :: b) d R' := RunTo.append (a := [x]) (RunTo.one h) h2

def kw (c : UInt8) : ByteArray := ⟨#[36, c]⟩
theorem kw_list (c : UInt8) : (kw c).toList = [36, c] := by unfold kw; rw [ByteArray.toList_eq]
theorem kw_wrd (c : UInt8) (h : 33 ≤ c.toNat ∧ c.toNat ≤ 126) (h2 : c ≠ 40) : Wrd (kw c) := by
  refine ⟨by show 0 < 2; omega, ?_, ?_⟩
  · intro i hi
    have h2 : i < 2 := hi
    match i, h2 with
    | 0, _ => rfl
    | 1, _ =>
      have : byteAt (kw c) 1 = (c.toNat : Int) := rfl
      rw [this]; unfold plainB; simp; omega
  · rw [kw_list]; simp [h2]
theorem Wd.wrd {x : ByteArray} (h : Wd x) : Wrd x := ⟨h.1, fun i hi => (h.2 i hi).1, h.notKey 40⟩

/-- No statement is open. -/
structure Idle (d : Db) : Prop where
  kind : d.kind = 0
  syms : d.symbols = []
  prf : d.inProof = false
  pr : d.proof = []

theorem take_c {d : Db} (h : Idle d) (hb : d.blocks = []) (p : Pl) : takeF d (kw 99) p = (0, { d with kind := 7 }) := by
  unfold takeF
  rw [if_pos (by rw [h.kind]; rfl)]
  unfold takeFirstF
  rw [kw_list]; simp [hb]
theorem take_v {d : Db} (h : Idle d) (p : Pl) : takeF d (kw 118) p = (0, { d with kind := 8 }) := by
  unfold takeF
  rw [if_pos (by rw [h.kind]; rfl)]
  unfold takeFirstF
  rw [kw_list]; simp
theorem take_d {d : Db} (h : Idle d) (p : Pl) : takeF d (kw 100) p = (0, { d with kind := 1 }) := by
  unfold takeF
  rw [if_pos (by rw [h.kind]; rfl)]
  unfold takeFirstF
  rw [kw_list]; simp
theorem take_open {d : Db} (h : Idle d) (p : Pl) : takeF d (kw 123) p = (0, { d with blocks := d.blocks ++ [(d.active.length, d.typed.length)], rbl := d.rbl ++ [d.sts.length] }) := by
  unfold takeF
  rw [if_pos (by rw [h.kind]; rfl)]
  unfold takeFirstF
  rw [kw_list]; simp
theorem take_close {d : Db} (h : Idle d) (q : Nat × Nat) (hq : d.blocks.getLast? = some q) (p : Pl) : takeF d (kw 125) p = (0, endBothF d q) := by
  unfold takeF
  rw [if_pos (by rw [h.kind]; rfl)]
  unfold takeFirstF
  rw [kw_list, hq]; simp
theorem take_label {d : Db} (h : Idle d) (x : ByteArray) (hx : Wd x) (hl : isLabelF x = true) (ht : isTakenF d x = false) (p : Pl) : takeF d x p = (0, { d with labels := d.labels ++ [x], label := x, kind := 6 }) := by
  unfold takeF
  rw [if_pos (by rw [h.kind]; rfl)]
  unfold takeFirstF
  simp only [hx.notKey, Bool.false_eq_true, if_false, or_self]
  unfold takeLabelF
  simp [hx.noDollar, hl, ht]
theorem take_kw {d : Db} (h : d.kind = 6) (c : UInt8) (k : Int) (hk : (c = 102 ∧ k = 2) ∨ (c = 101 ∧ k = 3) ∨ (c = 97 ∧ k = 4)) (p : Pl) : takeF d (kw c) p = (0, { d with kind := k }) := by
  unfold takeF
  rw [if_neg (by rw [h]; decide), if_pos (by rw [h]; rfl)]
  unfold takeKeywordF
  rw [kw_list]
  rcases hk with ⟨rfl, rfl⟩ | ⟨rfl, rfl⟩ | ⟨rfl, rfl⟩ <;> simp
theorem take_sym {d : Db} (h0 : d.kind ≠ 0) (h6 : d.kind ≠ 6) (hp : d.inProof = false) (x : ByteArray) (hx : Wd x) (hc : checkSymbolF d x = 0) (p : Pl) : takeF d x p = (0, { d with symbols := d.symbols ++ [x] }) := by
  unfold takeF
  rw [if_neg (by simpa using h0), if_neg (by simpa using h6), if_neg (by rw [hx.notKey]; simp), if_neg (by rintro ⟨h, -⟩; rw [hx.notKey] at h; cases h), if_neg (by rw [hx.noDollar]; simp), if_neg (by rw [hp]; simp), if_pos (by rw [hc]; rfl)]
theorem take_end {d : Db} (h0 : d.kind ≠ 0) (h6 : d.kind ≠ 6) (h5 : d.kind ≠ 5) (hl : leastF d ≤ d.symbols.length) (p : Pl) : takeF d (kw 46) p = (0, { declareF d p with kind := 0, label := ⟨#[]⟩, symbols := [], inProof := false, proof := [] }) := by
  unfold takeF
  rw [if_neg (by simpa using h0), if_neg (by simpa using h6), if_pos (by rw [kw_list]; rfl)]
  unfold endF
  rw [if_neg (by omega), if_neg (by rintro ⟨h, -⟩; exact h5 (by simpa using h))]

/-- Symbols, one by one. -/
theorem run_syms (ys : List ByteArray) : ∀ (d : Db), d.kind ≠ 0 → d.kind ≠ 6 → d.inProof = false → (∀ y ∈ ys, Wd y) → (∀ (pre : List ByteArray) y post, ys = pre ++ y :: post → checkSymbolF { d with symbols := d.symbols ++ pre } y = 0) →
    RunTo ys d (fun d' => d' = { d with symbols := d.symbols ++ ys }) := by
  induction ys with
  | nil => intro d _ _ _ _ _; exact RunTo.nil (by simp)
  | cons y ys ih =>
    intro d h0 h6 hp hw hc
    have hcy := hc [] y ys rfl
    simp only [List.append_nil] at hcy
    refine RunTo.cons (R := fun d1 => d1 = { d with symbols := d.symbols ++ [y] }) (fun p => by rw [take_sym h0 h6 hp y (hw y (by simp)) hcy p]; exact ⟨rfl, rfl⟩) ?_
    rintro d1 rfl
    refine (ih { d with symbols := d.symbols ++ [y] } h0 h6 hp (fun z hz => hw z (List.mem_cons_of_mem _ hz)) ?_).mono ?_
    · intro pre z post he
      have := hc (y :: pre) z post (by rw [he]; rfl)
      simpa using this
    · rintro d' rfl
      simp

/-- $c x $. -/
theorem run_c {d : Db} (h : Idle d) (hb : d.blocks = []) (x : ByteArray) (hx : Wd x) (ht : isTakenF d x = false) : RunTo [kw 99, x, kw 46] d (fun d' => d' = { d with constants := d.constants ++ [x], label := ⟨#[]⟩ }) := by
  refine RunTo.cons (R := fun d1 => d1 = { d with kind := 7 }) (fun p => by rw [take_c h hb]; exact ⟨rfl, rfl⟩) ?_
  rintro d1 rfl
  refine RunTo.cons (R := fun d1 => d1 = { d with kind := 7, symbols := [x] }) (fun p => ?_) ?_
  · rw [take_sym (d := { d with kind := 7 }) (show (7 : Int) ≠ 0 by decide) (show (7 : Int) ≠ 6 by decide) h.prf x hx ?_ p]
    · exact ⟨rfl, by simp [h.syms]⟩
    · unfold checkSymbolF
      rw [if_pos (by rfl), if_neg]
      rintro (h1 | h1)
      · have h1' : hasF d.symbols x = true := h1
        rw [h.syms] at h1'; simp [hasF] at h1'
      · exact Bool.noConfusion (ht.symm.trans h1)
  · rintro d1 rfl
    refine RunTo.one (fun p => ?_)
    rw [take_end (d := { d with kind := 7, symbols := [x] }) (show (7 : Int) ≠ 0 by decide) (show (7 : Int) ≠ 6 by decide) (show (7 : Int) ≠ 5 by decide) (by simp [leastF]) p]
    refine ⟨rfl, ?_⟩
    have e := h.kind
    have e2 := h.syms
    have e3 := h.prf
    have e4 := h.pr
    obtain ⟨lb, cn, va, ac, ty, bl, st, rb, k, la, sy, ip, pr⟩ := d
    simp only at e e2 e3 e4
    subst e e2 e3 e4
    simp [declareF]
/-- A labelled statement of kind 2, 3 or 4. -/
theorem run_st {d : Db} (h : Idle d) (lab : ByteArray) (hx : Wd lab) (hl : isLabelF lab = true) (ht : isTakenF d lab = false) (c : UInt8) (k : Int) (hk : (c = 102 ∧ k = 2) ∨ (c = 101 ∧ k = 3) ∨ (c = 97 ∧ k = 4)) (ys : List ByteArray) (hw : ∀ y ∈ ys, Wd y) (hpos : 1 ≤ ys.length) (h2 : k = 2 → ys.length = 2)
    (hc : ∀ (pre : List ByteArray) y post, ys = pre ++ y :: post → checkSymbolF { d with kind := k, symbols := pre } y = 0) :
    RunTo (lab :: kw c :: (ys ++ [kw 46])) d (fun d' => ∃ p, d' = { d with labels := d.labels ++ [lab], typed := if k = 2 then d.typed ++ [ys.getD 1 ⟨#[]⟩] else d.typed, sts := d.sts ++ [⟨k, lab, ys, [], p, 0⟩], label := ⟨#[]⟩ }) := by
  have hk5 : k = 2 ∨ k = 3 ∨ k = 4 := by rcases hk with ⟨_, h⟩ | ⟨_, h⟩ | ⟨_, h⟩ <;> omega
  refine RunTo.cons (R := fun d1 => d1 = { d with labels := d.labels ++ [lab], label := lab, kind := 6 }) (fun p => by rw [take_label h lab hx hl ht]; exact ⟨rfl, rfl⟩) ?_
  rintro d1 rfl
  refine RunTo.cons (R := fun d1 => d1 = { d with labels := d.labels ++ [lab], label := lab, kind := k }) (fun p => by rw [take_kw (d := { d with labels := d.labels ++ [lab], label := lab, kind := 6 }) rfl c k hk]; exact ⟨rfl, rfl⟩) ?_
  rintro d1 rfl
  refine RunTo.append (R := fun d1 => d1 = { d with labels := d.labels ++ [lab], label := lab, kind := k, symbols := ys }) ?_ ?_
  · refine (run_syms ys { d with labels := d.labels ++ [lab], label := lab, kind := k } (by show k ≠ 0; omega) (by show k ≠ 6; omega) h.prf hw ?_).mono ?_
    · intro pre y post he
      have h3 := hc pre y post he
      have e : checkSymbolF { d with labels := d.labels ++ [lab], label := lab, kind := k, symbols := d.symbols ++ pre } y = checkSymbolF { d with kind := k, symbols := pre } y := by
        rw [h.syms]
        unfold checkSymbolF
        have k7 : (k == 7) = false := by rw [beq_eq_false_iff_ne]; omega
        have k8 : (k == 8) = false := by rw [beq_eq_false_iff_ne]; omega
        have k1 : (k == 1) = false := by rw [beq_eq_false_iff_ne]; omega
        simp only [k7, k8, k1, Bool.false_eq_true, if_false, List.nil_append]
        rfl
      rw [e]; exact h3
    · rintro d' rfl
      simp [h.syms]
  · rintro d1 rfl
    refine RunTo.one (fun p => ?_)
    rw [take_end (d := { d with labels := d.labels ++ [lab], label := lab, kind := k, symbols := ys }) (by show k ≠ 0; omega) (by show k ≠ 6; omega) (by show k ≠ 5; omega) ?_ p]
    · refine ⟨rfl, p, ?_⟩
      have e := h.kind
      have e2 := h.syms
      have e3 := h.prf
      have e4 := h.pr
      obtain ⟨lb, cn, va, ac, ty, bl, st, rb, kk, la, sy, ip, pr⟩ := d
      simp only at e e2 e3 e4
      subst e e2 e3 e4
      have k7 : (k == 7) = false := by rw [beq_eq_false_iff_ne]; omega
      have k8 : (k == 8) = false := by rw [beq_eq_false_iff_ne]; omega
      by_cases hk2 : k = 2
      · have hlen := h2 hk2
        subst hk2
        simp [declareF, typeIt, addSt, hlen]
      · have k2 : (k == 2) = false := by rw [beq_eq_false_iff_ne]; exact hk2
        simp [declareF, typeIt, addSt, k7, k8, k2, hk2]
    · unfold leastF
      by_cases hk2 : k = 2
      · have hlen := h2 hk2
        simp [hk2, hlen]
      · have k2 : (k == 2) = false := by rw [beq_eq_false_iff_ne]; exact hk2
        have k1 : (k == 1) = false := by rw [beq_eq_false_iff_ne]; omega
        simp [k1, k2]; omega

/-- $v and $d: a list of names. -/
theorem run_list {d : Db} (h : Idle d) (c : UInt8) (k : Int) (hk : (c = 118 ∧ k = 8) ∨ (c = 100 ∧ k = 1)) (ys : List ByteArray) (hw : ∀ y ∈ ys, Wd y) (hpos : 1 ≤ ys.length) (h2 : k = 1 → 2 ≤ ys.length) (hdis : ys.Pairwise (fun a b => (a.toList == b.toList) = false))
    (hc : ∀ y ∈ ys, if k = 8 then isTakenVF d y = false else hasF d.active y = true) :
    RunTo (kw c :: (ys ++ [kw 46])) d (fun d' => ∃ p, d' = { (if k = 8 then varsAt { d with symbols := ys } ys.length else { d with sts := d.sts ++ [⟨1, d.label, ys, [], p, 0⟩] }) with kind := 0, label := ⟨#[]⟩, symbols := [], inProof := false, proof := [] }) := by
  have hk5 : k = 8 ∨ k = 1 := by rcases hk with ⟨_, h⟩ | ⟨_, h⟩ <;> omega
  refine RunTo.cons (R := fun d1 => d1 = { d with kind := k }) (fun p => ?_) ?_
  · rcases hk with ⟨rfl, rfl⟩ | ⟨rfl, rfl⟩
    · rw [take_v h]; exact ⟨rfl, rfl⟩
    · rw [take_d h]; exact ⟨rfl, rfl⟩
  rintro d1 rfl
  refine RunTo.append (R := fun d1 => d1 = { d with kind := k, symbols := ys }) ?_ ?_
  · refine (run_syms ys { d with kind := k } (by show k ≠ 0; omega) (by show k ≠ 6; omega) h.prf hw ?_).mono ?_
    · intro pre y post he
      have hy : y ∈ ys := by rw [he]; simp
      have hcy := hc y hy
      have hnp : hasF pre y = false := by
        unfold hasF
        rw [List.any_eq_false]
        intro z hz
        rw [he] at hdis
        have := (List.pairwise_append.1 hdis).2.2 z hz y (by simp)
        simp [this]
      rw [h.syms]
      unfold checkSymbolF
      rcases hk5 with rfl | rfl
      · rw [if_pos rfl] at hcy
        rw [if_neg (show ¬ ((8 : Int) == 7) = true by decide), if_pos (by rfl), if_neg]
        rintro (h1 | h1)
        · have h1' : hasF pre y = true := by simpa using h1
          rw [hnp] at h1'; cases h1'
        · exact Bool.noConfusion (hcy.symm.trans h1)
      · rw [if_neg (by decide)] at hcy
        rw [if_neg (show ¬ ((1 : Int) == 7) = true by decide), if_neg (show ¬ ((1 : Int) == 8) = true by decide), if_pos (by rfl)]
        unfold checkDisjointF
        rw [if_neg (by show ¬ hasF d.active y = false; rw [hcy]; simp), if_neg]
        intro h1
        have h1' : hasF pre y = true := by simpa using h1
        rw [hnp] at h1'; cases h1'
    · rintro d' rfl
      simp [h.syms]
  · rintro d1 rfl
    refine RunTo.one (fun p => ?_)
    rw [take_end (d := { d with kind := k, symbols := ys }) (by show k ≠ 0; omega) (by show k ≠ 6; omega) (by show k ≠ 5; omega) ?_ p]
    · refine ⟨rfl, p, ?_⟩
      have e := h.kind
      have e2 := h.syms
      have e3 := h.prf
      have e4 := h.pr
      obtain ⟨lb, cn, va, ac, ty, bl, st, rb, kk, la, sy, ip, pr⟩ := d
      simp only at e e2 e3 e4
      subst e e2 e3 e4
      rcases hk5 with rfl | rfl
      · simp [declareF, varsAt]
      · simp [declareF, typeIt, addSt]
    · unfold leastF
      rcases hk5 with rfl | rfl
      · simp; omega
      · have := h2 rfl
        simp; omega
theorem run_open {d : Db} (h : Idle d) : RunTo [kw 123] d (fun d' => d' = { d with blocks := d.blocks ++ [(d.active.length, d.typed.length)], rbl := d.rbl ++ [d.sts.length] }) :=
  RunTo.one (fun p => by rw [take_open h]; exact ⟨rfl, rfl⟩)
theorem run_close {d : Db} (h : Idle d) (q : Nat × Nat) (hq : d.blocks.getLast? = some q) : RunTo [kw 125] d (fun d' => d' = endBothF d q) :=
  RunTo.one (fun p => by rw [take_close h q hq]; exact ⟨rfl, rfl⟩)

end Go.Proofs.YtcipkfhpcbddiaaGreat

/- Package frames: keyword, line, variablesOf. -/
namespace Go.Proofs.YtcipkfhpcbddiaaGreat
open Go.RowKit

def keyF (k : Int) : ByteArray := if (k == 2) = true then ⟨#[36, 102]⟩ else if (k == 3) = true then ⟨#[36, 101]⟩ else if (k == 4) = true then ⟨#[36, 97]⟩ else ⟨#[36, 112]⟩
set_option maxHeartbeats 400000 in
theorem keyword_any (k : Int) (w : World) : Calls Tryz.prog 73 #[.int .i64 k] w fun e w' => e = .returned (.string (keyF k)) ∧ w' = w := by
  cases h2 : (k == 2)
  · cases h3 : (k == 3)
    · cases h4 : (k == 4)
      · have HK : Hid (keyF k = ⟨#[36, 112]⟩) := by show _ = _; simp only [keyF, h2, h3, h4]; rfl
        go_enter Tryz.func73, Tryz.ntmps73
        go_wp2
        go_ret
        exact ⟨by rw [HK.out]; rfl, rfl⟩
      · have HK : Hid (keyF k = ⟨#[36, 97]⟩) := by show _ = _; simp only [keyF, h2, h3, h4]; rfl
        go_enter Tryz.func73, Tryz.ntmps73
        go_wp2
        go_ret
        exact ⟨by rw [HK.out]; rfl, rfl⟩
    · have HK : Hid (keyF k = ⟨#[36, 101]⟩) := by show _ = _; simp only [keyF, h2, h3]; rfl
      go_enter Tryz.func73, Tryz.ntmps73
      go_wp2
      go_ret
      exact ⟨by rw [HK.out]; rfl, rfl⟩
  · have HK : Hid (keyF k = ⟨#[36, 102]⟩) := by show _ = _; simp only [keyF, h2]; rfl
    go_enter Tryz.func73, Tryz.ntmps73
    go_wp2
    go_ret
    exact ⟨by rw [HK.out]; rfl, rfl⟩

/-- A statement as a line. -/
def lineTo (s : St) (k : Nat) : ByteArray := (s.symbols.take k).foldl (fun t x => t ++ (⟨#[32]⟩ ++ x)) (s.label ++ ⟨#[32]⟩ ++ keyF s.kind)
def lineF (s : St) : ByteArray := lineTo s s.symbols.length

theorem lineTo_next (s : St) (k : Nat) (h : k < s.symbols.length) : lineTo s (k + 1) = lineTo s k ++ (⟨#[32]⟩ ++ s.symbols[k]) := by
  unfold lineTo; rw [take_snoc s.symbols k h, List.foldl_append]; rfl
/-- What a line is made of is not long. -/
structure SzOk (s : St) : Prop where
  label : s.label.size ≤ 100000
  syms : ∀ x ∈ s.symbols, x.size ≤ 100000
theorem keyF_size (k : Int) : (keyF k).size = 2 := by
  unfold keyF
  repeat' split
  all_goals rfl
theorem one_size : (⟨#[32]⟩ : ByteArray).size = 1 := rfl
theorem lineTo_size (s : St) (h : SzOk s) (k : Nat) (hk : k ≤ s.symbols.length) : (lineTo s k).size ≤ 100003 + k * 100001 := by
  induction k with
  | zero =>
    unfold lineTo
    have := h.label
    simp only [List.take_zero, List.foldl_nil, ByteArray.size_append, one_size, keyF_size]
    omega
  | succ k ih =>
    have hx := h.syms _ (List.getElem_mem (show k < s.symbols.length by omega))
    rw [lineTo_next s k (by omega)]
    simp only [ByteArray.size_append, one_size]
    have := ih (by omega)
    omega

def varOne (l : List St) (n : Nat) : Option ByteArray := match l[n]? with
  | some s => if (s.kind == 2) = true then some (variableF s) else none
  | none => none
/-- The variables of hypotheses. -/
def varsTo (l : List St) (hs : List Nat) (k : Nat) : List ByteArray := (hs.take k).filterMap (varOne l)
def varsOfF (l : List St) (hs : List Nat) : List ByteArray := hs.filterMap (varOne l)
theorem varsTo_yes (l : List St) (hs : List Nat) (k : Nat) (h : k < hs.length) (hn : hs[k] < l.length) (hk : (l[hs[k]].kind == 2) = true) : varsTo l hs (k + 1) = varsTo l hs k ++ [variableF l[hs[k]]] := by
  unfold varsTo; rw [take_snoc hs k h, List.filterMap_append]
  have : varOne l hs[k] = some (variableF l[hs[k]]) := by unfold varOne; rw [List.getElem?_eq_getElem hn]; simp [hk]
  simp [this]
theorem varsTo_no (l : List St) (hs : List Nat) (k : Nat) (h : k < hs.length) (hn : hs[k] < l.length) (hk : (l[hs[k]].kind == 2) = false) : varsTo l hs (k + 1) = varsTo l hs k := by
  unfold varsTo; rw [take_snoc hs k h, List.filterMap_append]
  have : varOne l hs[k] = none := by unfold varOne; rw [List.getElem?_eq_getElem hn]; simp [hk]
  simp [this]
theorem varsTo_len (l : List St) (hs : List Nat) (k : Nat) : (varsTo l hs k).length ≤ hs.length := by
  unfold varsTo
  have h1 := List.length_filterMap_le (varOne l) (hs.take k)
  have h2 : (hs.take k).length ≤ hs.length := by simp; omega
  omega

end Go.Proofs.YtcipkfhpcbddiaaGreat

/- Package metaproofkeep: split: the words of a line. -/
namespace Go.Proofs.YtcipkfhpcbddiaaGreat
open Go.RowKit

/-- Behind i bytes: the words so far, and where the next begins. -/
def spAt (s : ByteArray) : Nat → List ByteArray × Nat
  | 0 => ([], 0)
  | i + 1 => if (byteAt s i == 32) = true then ((spAt s i).1 ++ [s.extract (spAt s i).2 i], i + 1) else spAt s i
def splitF (s : ByteArray) : List ByteArray := (spAt s s.size).1 ++ [s.extract (spAt s s.size).2 s.size]
theorem spAt_yes (s : ByteArray) (i : Nat) (h : (byteAt s i == 32) = true) : spAt s (i + 1) = ((spAt s i).1 ++ [s.extract (spAt s i).2 i], i + 1) := by rw [spAt, if_pos h]
theorem spAt_no (s : ByteArray) (i : Nat) (h : (byteAt s i == 32) = false) : spAt s (i + 1) = spAt s i := by rw [spAt, if_neg (by rw [h]; simp)]
theorem spAt_le (s : ByteArray) (i : Nat) : (spAt s i).2 ≤ i ∧ (spAt s i).1.length ≤ i := by
  induction i with
  | zero => simp [spAt]
  | succ i ih =>
    cases h : (byteAt s i == 32)
    · rw [spAt_no s i h]; omega
    · rw [spAt_yes s i h]; simp; omega

/-- No blank in it. -/
def NoBl (x : ByteArray) : Prop := ∀ i, i < x.size → (byteAt x i == 32) = false
theorem Wd.noBl {x : ByteArray} (h : Wd x) : NoBl x := by
  intro i hi
  have := (h.2 i hi).1
  cases e : (byteAt x i == 32)
  · rfl
  · have e' : byteAt x i = 32 := by simpa using e
    rw [e'] at this
    revert this; decide
theorem extract_all (x : ByteArray) : x.extract 0 x.size = x := by simp
theorem split_one (x : ByteArray) (h : NoBl x) : splitF x = [x] := by
  have : ∀ i, i ≤ x.size → spAt x i = ([], 0) := by
    intro i
    induction i with
    | zero => intro _; rfl
    | succ i ih => intro hi; rw [spAt_no x i (h i (by omega))]; exact ih (by omega)
  unfold splitF
  rw [this x.size (Nat.le_refl _)]
  simp
theorem extract_left (t u : ByteArray) (a z : Nat) (hz : z ≤ t.size) : (t ++ u).extract a z = t.extract a z := by
  apply ByteArray.ext_getElem
  · simp only [ByteArray.size_extract, ByteArray.size_append]; omega
  · intro i h1 h2
    rw [ByteArray.getElem_extract, ByteArray.getElem_extract, ByteArray.getElem_append_left]
theorem bl_size : (⟨#[32]⟩ : ByteArray).size = 1 := rfl
theorem split_more (t x : ByteArray) (h : NoBl x) : splitF (t ++ (⟨#[32]⟩ ++ x)) = splitF t ++ [x] := by
  have e1 : ∀ i, i ≤ t.size → spAt (t ++ (⟨#[32]⟩ ++ x)) i = spAt t i := by
    intro i
    induction i with
    | zero => intro _; rfl
    | succ i ih =>
      intro hi
      have ih := ih (by omega)
      have hb := byteAt_append_left t (⟨#[32]⟩ ++ x) i (by omega)
      cases hc : (byteAt t i == 32)
      · rw [spAt_no _ i (by rw [hb]; exact hc), spAt_no t i hc, ih]
      · rw [spAt_yes _ i (by rw [hb]; exact hc), spAt_yes t i hc, ih, extract_left _ _ _ _ (by omega)]
  have hs : (t ++ (⟨#[32]⟩ ++ x)).size = t.size + 1 + x.size := by simp only [ByteArray.size_append, bl_size]; omega
  have hb0 : byteAt (t ++ (⟨#[32]⟩ ++ x)) t.size = 32 := by
    have := byteAt_append_right t (⟨#[32]⟩ ++ x) 0 (by simp only [ByteArray.size_append, bl_size]; omega)
    rw [Nat.add_zero] at this
    rw [this, byteAt_append_left _ _ 0 (by rw [bl_size]; omega)]
    decide +kernel
  have hbr : ∀ i, i < x.size → byteAt (t ++ (⟨#[32]⟩ ++ x)) (t.size + 1 + i) = byteAt x i := by
    intro i hi
    have := byteAt_append_right t (⟨#[32]⟩ ++ x) (1 + i) (by simp only [ByteArray.size_append, bl_size]; omega)
    rw [show t.size + 1 + i = t.size + (1 + i) by omega, this]
    have h2 := byteAt_append_right (⟨#[32]⟩ : ByteArray) x i hi
    rw [bl_size] at h2
    exact h2
  have e2 : ∀ i, i ≤ x.size → spAt (t ++ (⟨#[32]⟩ ++ x)) (t.size + 1 + i) = (splitF t, t.size + 1) := by
    intro i
    induction i with
    | zero =>
      intro _
      rw [Nat.add_zero, spAt_yes _ t.size (by rw [hb0]; rfl), e1 _ (Nat.le_refl _), extract_left _ _ _ _ (Nat.le_refl _)]
      rfl
    | succ i ih =>
      intro hi
      rw [show t.size + 1 + (i + 1) = (t.size + 1 + i) + 1 by omega, spAt_no _ _ (by rw [hbr i (by omega)]; exact h i (by omega))]
      exact ih (by omega)
  conv => lhs; unfold splitF
  rw [hs, e2 x.size (Nat.le_refl _)]
  simp only
  congr 2
  apply ByteArray.ext_getElem
  · simp only [ByteArray.size_extract, hs]; omega
  · intro i h1 h2
    rw [ByteArray.getElem_extract]
    have hbi := hbr i h2
    rw [byteAt_of _ _ (by rw [hs]; omega), byteAt_of _ _ h2] at hbi
    exact UInt8.toNat_inj.1 (by omega)

theorem split_line_to (s : St) (hl : NoBl s.label) (hx : ∀ x ∈ s.symbols, NoBl x) (k : Nat) (hk : k ≤ s.symbols.length) : splitF (lineTo s k) = s.label :: keyF s.kind :: s.symbols.take k := by
  induction k with
  | zero =>
    unfold lineTo
    simp only [List.take_zero, List.foldl_nil]
    rw [ByteArray.append_assoc, split_more _ _ ?_, split_one _ hl]
    · rfl
    · unfold keyF
      repeat' split
      all_goals (intro i hi; have h2 : i < 2 := hi; match i, h2 with | 0, _ => decide +kernel | 1, _ => decide +kernel)
  | succ k ih =>
    rw [lineTo_next s k (by omega), split_more _ _ (hx _ (List.getElem_mem _)), ih (by omega), take_snoc s.symbols k (by omega)]
    simp
theorem split_line (s : St) (hl : NoBl s.label) (hx : ∀ x ∈ s.symbols, NoBl x) : splitF (lineF s) = s.label :: keyF s.kind :: s.symbols := by
  unfold lineF
  rw [split_line_to s hl hx _ (Nat.le_refl _), List.take_length]

set_option maxHeartbeats 1000000 in
set_option maxRecDepth 100000 in
theorem split_any (s : ByteArray) (w : World) (hs : s.size ≤ 1073741824) :
    Calls Tryz.prog 41 #[.string s] w fun e w' => ∃ hd : Hd, e = .returned (.slice hd.ao (splitF s).length hd.cap) ∧ Owns w' hd (rowS (splitF s)) ∧ (∀ x, hd.blk = some x → w.heap.size ≤ x) ∧ Kept [] w w' := by
  obtain ⟨i0, hi, hz0, hz1, hz2⟩ := info_parts infoS
  go_enter Tryz.func41, Tryz.ntmps41
  go_wp2
  go_loopg [3, 4, 5] s.size (fun gk sv fv i wr => ∃ (k : Nat) (hd : Hd), k ≤ s.size ∧ gk = s.size - k ∧ i = .int .i64 k ∧ fv = .int .i64 (spAt s k).2 ∧ sv = .slice hd.ao (spAt s k).1.length hd.cap ∧ Owns wr hd (rowS (spAt s k).1) ∧ (∀ x, hd.blk = some x → w.heap.size ≤ x) ∧ Kept [] w wr)
  case atStart => exact ⟨0, ⟨none, 0⟩, by omega, by omega, rfl, rfl, rfl, World.ownsRow_nil _ _ _ _, by intro x hx; simp [Hd.blk] at hx, Kept.refl _ _⟩
  case round =>
    obtain ⟨k, hd, hk, hg, rfl, rfl, rfl, hO, hN, hK⟩ := hrel
    have hle := spAt_le s k
    by_cases hlt : k < s.size
    · have HY := (show Hid _ from spAt_yes s k)
      have HN0 := (show Hid _ from spAt_no s k)
      rw [byteAt_of s k hlt] at HY HN0
      generalize hsp : spAt s k = sp at *
      obtain ⟨out, from_⟩ := sp
      simp only at hle hO HY HN0 ⊢
      have hfk : (from_ : Int) ≤ k := by omega
      cases hb : (((s[k]'hlt).toNat : Int) == 32)
      · have HT := (show Hid _ from HN0.out hb)
        clear HY HN0
        have hb' : (s[k]'hlt == 32) = false := by
          cases e : (s[k]'hlt == 32)
          · rfl
          · have e2 : s[k]'hlt = 32 := by simpa using e
            rw [e2] at hb; revert hb; decide
        go_wp2
        go_roundg (s.size - (k + 1))
        case measure => omega
        case rel => exact ⟨k + 1, hd, by omega, rfl, by go_num, by rw [HT.out], by rw [HT.out], by rw [HT.out]; exact hO, hN, hK⟩
      · have HT := (show Hid _ from HY.out hb)
        clear HY HN0
        have hb' : (s[k]'hlt == 32) = true := by
          have e2 : ((s[k]'hlt).toNat : Int) = 32 := by simpa using hb
          have : s[k]'hlt = 32 := UInt8.toNat_inj.1 (by simp; omega)
          rw [this]; rfl
        have hO4 : Owns (wr.alloc (.cells #[.string (s.extract from_ k)] 9)) hd (rowS out) := hO.moved (fun x hx => ((Kept.refl [] wr).alloc _).block x (hO.lt hx) (by simp))
        go_wp2_with (at_builtin; refine wpList_append_row _ rfl (.tmp 16) (.tmp 21) 22 rfl i0 (.string ⟨#[]⟩) 16 hd (rowS out) Tryz.underlying22 hi hz0 hz1 hz2 rfl Nat.one_pos rfl (by exact hO4) ⟨_, 0, none⟩ 1 1 [.string (s.extract from_ k)] rfl rfl ?d1 ?d2 Nat.one_pos ?d3 ?d4 ?_)
        case d1 => intro j u hj; match j, hj with | 0, hj => simp at hj; subst hj; simp [Addr.add]
        case d2 => intro u hu; simp at hu; subst hu; rfl
        case d3 => simp only [rowS]; unfold maxLen; omega
        case d4 => simp only [rowS]; omega
        intro g5 cap5 w5 hw5 hgr5 hfresh5
        rw [rowS_snoc out (s.extract from_ k)] at hw5
        have hK4 := hK.alloc (.cells #[.string (s.extract from_ k)] 9)
        have hK5 := hK4.grown hgr5 hN
        have hg5 : w.heap.size ≤ g5 := by
          rcases hfresh5 with e | e
          · exact hN g5 e
          · have := hK4.size; simp at e this; omega
        have hEl : Hid ((rowS out).n + 1 = (out ++ [s.extract from_ k]).length) := by show _ = _; simp [rowS]
        rw [hEl.out]
        clear hgr5 hfresh5 hO4
        go_wp2
        go_roundg (s.size - (k + 1))
        case measure => omega
        case rel => exact ⟨k + 1, ⟨some ⟨g5, 0, none⟩, cap5⟩, by omega, rfl, by go_num, by rw [HT.out]; go_num, by rw [HT.out], by rw [HT.out]; exact hw5, by intro x hx; simp [Hd.blk] at hx; omega, hK5⟩
    · have e : k = s.size := by omega
      subst e
      have HE : Hid (splitF s = (spAt s s.size).1 ++ [s.extract (spAt s s.size).2 s.size]) := rfl
      generalize spAt s s.size = sp at *
      obtain ⟨out, from_⟩ := sp
      simp only at hle hO HE ⊢
      have hfk : (from_ : Int) ≤ s.size := by omega
      have hO4 : Owns (wr.alloc (.cells #[.string (s.extract from_ s.size)] 9)) hd (rowS out) := hO.moved (fun x hx => ((Kept.refl [] wr).alloc _).block x (hO.lt hx) (by simp))
      go_wp2_with (at_builtin; refine wpList_append_row _ rfl (.tmp 25) (.tmp 29) 22 rfl i0 (.string ⟨#[]⟩) 16 hd (rowS out) Tryz.underlying22 hi hz0 hz1 hz2 rfl Nat.one_pos rfl (by exact hO4) ⟨_, 0, none⟩ 1 1 [.string (s.extract from_ s.size)] rfl rfl ?d1 ?d2 Nat.one_pos ?d3 ?d4 ?_)
      case d1 => intro j u hj; match j, hj with | 0, hj => simp at hj; subst hj; simp [Addr.add]
      case d2 => intro u hu; simp at hu; subst hu; rfl
      case d3 => simp only [rowS]; unfold maxLen; omega
      case d4 => simp only [rowS]; omega
      intro g5 cap5 w5 hw5 hgr5 hfresh5
      rw [rowS_snoc out (s.extract from_ s.size)] at hw5
      have hK4 := hK.alloc (.cells #[.string (s.extract from_ s.size)] 9)
      have hK5 := hK4.grown hgr5 hN
      have hg5 : w.heap.size ≤ g5 := by
        rcases hfresh5 with e | e
        · exact hN g5 e
        · have := hK4.size; simp at e this; omega
      have hEl : Hid ((rowS out).n + 1 = (out ++ [s.extract from_ s.size]).length) := by show _ = _; simp [rowS]
      rw [hEl.out]
      clear hgr5 hfresh5 hO4
      go_wp2
      go_ret
      rw [HE.out]
      exact ⟨⟨some ⟨g5, 0, none⟩, cap5⟩, rfl, hw5, by intro x hx; simp [Hd.blk] at hx; omega, hK5⟩

end Go.Proofs.YtcipkfhpcbddiaaGreat

/- Package frames: line, variablesOf: the walks. -/
namespace Go.Proofs.YtcipkfhpcbddiaaGreat
open Go.RowKit

set_option maxHeartbeats 2000000 in
set_option maxRecDepth 100000 in
theorem variablesOf_any (b o : Nat) (l : List St) (H : Nat → Hd) (hs : List Nat) (hh : Hd) (w : World) (h : RecAt w b o l H) (ok : RecOk l) (hOH : Owns w hh (rowN hs)) (hlen : hs.length ≤ 10000) (hlt0 : ∀ x ∈ hs, x < l.length) :
    Calls Tryz.prog 71 #[.pointer (some ⟨b, o, none⟩), .slice hh.ao hs.length hh.cap] w fun e w' => ∃ hd : Hd, e = .returned (.slice hd.ao (varsOfF l hs).length hd.cap) ∧ Owns w' hd (rowS (varsOfF l hs)) ∧ (∀ x, hd.blk = some x → w.heap.size ≤ x) ∧ Kept [] w w' := by
  obtain ⟨i0, hi, hz0, hz1, hz2⟩ := info_parts infoS
  have hll := ok.len
  have HE : Hid (varsTo l hs hs.length = varsOfF l hs) := by show _ = _; unfold varsTo varsOfF; rw [List.take_length]
  rw [← HE.out]
  clear HE
  obtain ⟨AO, HAO⟩ : ∃ AO, Hid (hh.ao = AO) := ⟨_, rfl⟩
  rw [HAO.out]
  go_enter Tryz.func71, Tryz.ntmps71
  go_wp2
  go_loopg [5, 6] hs.length (fun gk sv i wr => ∃ (k : Nat) (hd : Hd), k ≤ hs.length ∧ gk = hs.length - k ∧ i = .int .i64 k ∧ sv = .slice hd.ao (varsTo l hs k).length hd.cap ∧ Owns wr hd (rowS (varsTo l hs k)) ∧ (∀ x, hd.blk = some x → w.heap.size ≤ x) ∧ Kept [] w wr)
  case atStart => exact ⟨0, ⟨none, 0⟩, by omega, by omega, rfl, rfl, World.ownsRow_nil _ _ _ _, by intro x hx; simp [Hd.blk] at hx, Kept.refl _ _⟩
  case round =>
    obtain ⟨k, hd, hk, hg, rfl, rfl, hO, hN, hK⟩ := hrel
    have hr := h.still hK
    have hal := varsTo_len l hs k
    by_cases hlt : k < hs.length
    · have hnl := hlt0 hs[k] (List.getElem_mem hlt)
      have hOHr : Owns wr hh (rowN hs) := hOH.moved (fun x hx => hK.block x (hOH.lt hx) (by simp))
      rcases hOHr.ways with ⟨_, h0, _⟩ | ⟨gh, curh, eh, eh2, eh3, -⟩
      · have : hs.length = 0 := h0
        omega
      have ch := hOHr.cell eh k (.int .i64 hs[k]) (nums_at hs k hlt)
      have hAO : AO = some ⟨gh, 0, none⟩ := by rw [← HAO.out]; exact eh
      subst hAO
      have hki : (k : Int) < hs.length := by omega
      have HY := (show Hid _ from varsTo_yes l hs k hlt hnl)
      have HN0 := (show Hid _ from varsTo_no l hs k hlt hnl)
      have hsl := ok.syms hs[k] hnl
      clear eh eh2 eh3 hOHr HAO
      generalize hs[k] = q at *
      have VA := variable_any l[q] (H (10 + 2 * q)) (H (11 + 2 * q))
      unfold stVal at VA
      have HVA := (show Hid _ from VA)
      clear VA
      go_upto_region 6 with (go_at_call 53; refine (statement_any b o q l H _ (by exact hr) hnl).mono ?_; rintro e w3 ⟨rfl, hk3⟩; unfold stVal)
      obtain ⟨W4, hW4⟩ : ∃ W4, W4 = w3.alloc (.cells #[.int .i64 l[q].kind, .string l[q].label, .slice (H (10 + 2 * q)).ao l[q].symbols.length (H (10 + 2 * q)).cap, .slice (H (11 + 2 * q)).ao l[q].proof.length (H (11 + 2 * q)).cap, .string l[q].fin.file, .int .i64 l[q].fin.line, .int .i64 l[q].fin.col, .int .i64 l[q].til] 119) := ⟨_, rfl⟩
      have hk4 : Kept [] wr W4 := by rw [hW4]; exact hk3.alloc _
      have B4 : W4.heap[w3.heap.size]? = some (.cells #[.int .i64 l[q].kind, .string l[q].label, .slice (H (10 + 2 * q)).ao l[q].symbols.length (H (10 + 2 * q)).cap, .slice (H (11 + 2 * q)).ao l[q].proof.length (H (11 + 2 * q)).cap, .string l[q].fin.file, .int .i64 l[q].fin.line, .int .i64 l[q].fin.col, .int .i64 l[q].til] 119 (0, 0)) := by rw [hW4]; exact heap_alloc_new _ _
      rw [← hW4]
      clear hW4
      have u0 : W4.cell? ⟨w3.heap.size, 0, none⟩ = some (.int .i64 l[q].kind) := by rw [cell_of B4]; rfl
      have u1 : W4.cell? ⟨w3.heap.size, 1, none⟩ = some (.string l[q].label) := by rw [cell_of B4]; rfl
      have u2 : W4.cell? ⟨w3.heap.size, 2, none⟩ = some (.slice (H (10 + 2 * q)).ao l[q].symbols.length (H (10 + 2 * q)).cap) := by rw [cell_of B4]; rfl
      have u3 : W4.cell? ⟨w3.heap.size, 3, none⟩ = some (.slice (H (11 + 2 * q)).ao l[q].proof.length (H (11 + 2 * q)).cap) := by rw [cell_of B4]; rfl
      have u4 : W4.cell? ⟨w3.heap.size, 4, none⟩ = some (.string l[q].fin.file) := by rw [cell_of B4]; rfl
      have u5 : W4.cell? ⟨w3.heap.size, 5, none⟩ = some (.int .i64 l[q].fin.line) := by rw [cell_of B4]; rfl
      have u6 : W4.cell? ⟨w3.heap.size, 6, none⟩ = some (.int .i64 l[q].fin.col) := by rw [cell_of B4]; rfl
      have u7 : W4.cell? ⟨w3.heap.size, 7, none⟩ = some (.int .i64 l[q].til) := by rw [cell_of B4]; rfl
      have hr4 := hr.still hk4
      have hO4 : Owns W4 hd (rowS (varsTo l hs k)) := hO.moved (fun x hx => hk4.block x (hO.lt hx) (by simp))
      have hV4 := (hr4.sts.syms q l[q] (List.getElem?_eq_getElem hnl)).view
      have hK4 := hK.trans hk4
      cases h2 : (l[q].kind == 2)
      · have HT := (show Hid _ from HN0.out h2)
        clear HY HN0
        go_wp2
        go_roundg (hs.length - (k + 1))
        case measure => omega
        case rel => exact ⟨k + 1, hd, by omega, rfl, by go_num, by rw [HT.out], by rw [HT.out]; exact hO4, hN, hK4⟩
      · have HT := (show Hid _ from HY.out h2)
        clear HY HN0
        go_wp2_with (first | (go_at_call 89; refine (HVA.out _ (by exact hV4) (by omega)).mono ?_; rintro e w5 ⟨rfl, k5⟩; have hO5 := hO4.moved (fun x hx => (k5.alloc (.cells #[.string (variableF l[q])] 9)).block x (hO4.lt hx) (by simp))) | (at_builtin; refine wpList_append_row _ rfl (.tmp 23) (.tmp 26) 22 rfl i0 (.string ⟨#[]⟩) 16 hd (rowS (varsTo l hs k)) Tryz.underlying22 hi hz0 hz1 hz2 rfl Nat.one_pos rfl (by exact hO5) ⟨_, 0, none⟩ 1 1 [.string (variableF l[q])] rfl rfl ?d1 ?d2 Nat.one_pos ?d3 ?d4 ?_))
        case d1 => intro j u hj; match j, hj with | 0, hj => simp at hj; subst hj; simp [Addr.add]
        case d2 => intro u hu; simp at hu; subst hu; rfl
        case d3 => simp only [rowS]; unfold maxLen; omega
        case d4 => simp only [rowS]; omega
        intro g6 cap6 w6 hw6 hgr6 hfresh6
        rw [rowS_snoc (varsTo l hs k) (variableF l[q]), ← HT.out] at hw6
        have hK5 := (hK4.trans k5).alloc (.cells #[.string (variableF l[q])] 9)
        have hK6 := hK5.grown hgr6 hN
        have hg6 : w.heap.size ≤ g6 := by
          rcases hfresh6 with e | e
          · exact hN g6 e
          · have := hK5.size; simp at e this; omega
        have hEl : Hid ((rowS (varsTo l hs k)).n + 1 = (varsTo l hs (k + 1)).length) := by show _ = _; rw [HT.out]; simp [rowS]
        rw [hEl.out]
        clear hgr6 hfresh6 hO5
        go_wp2
        go_roundg (hs.length - (k + 1))
        case measure => omega
        case rel => exact ⟨k + 1, ⟨some ⟨g6, 0, none⟩, cap6⟩, by omega, rfl, by go_num, rfl, hw6, by intro x hx; simp [Hd.blk] at hx; omega, hK6⟩
    · have e : k = hs.length := by omega
      subst e
      go_wp2
      go_ret
      exact ⟨hd, rfl, hO, hN, hK⟩

end Go.Proofs.YtcipkfhpcbddiaaGreat

/- Package frames: line. -/
namespace Go.Proofs.YtcipkfhpcbddiaaGreat
open Go.RowKit

set_option maxHeartbeats 2000000 in
set_option maxRecDepth 100000 in
theorem line_any (s : St) (ha hb : Hd) (w : World) (hv : View w ha s.symbols) (hsl : s.symbols.length ≤ 10000) (sz : SzOk s) :
    Calls Tryz.prog 57 #[stVal s ha hb] w fun e w' => e = .returned (.string (lineF s)) ∧ Kept [] w w' := by
  unfold stVal
  have hls := sz.label
  have hks := keyF_size s.kind
  have H0 : Hid (s.label ++ ⟨#[32]⟩ ++ keyF s.kind = lineTo s 0) := rfl
  obtain ⟨X, hX⟩ : ∃ X, X = w.alloc (.cells #[.int .i64 s.kind, .string s.label, .slice ha.ao s.symbols.length ha.cap, .slice hb.ao s.proof.length hb.cap, .string s.fin.file, .int .i64 s.fin.line, .int .i64 s.fin.col, .int .i64 s.til] 119) := ⟨_, rfl⟩
  have kX : Kept [] w X := by rw [hX]; exact (Kept.refl [] _).alloc _
  have BX : X.heap[w.heap.size]? = some (.cells #[.int .i64 s.kind, .string s.label, .slice ha.ao s.symbols.length ha.cap, .slice hb.ao s.proof.length hb.cap, .string s.fin.file, .int .i64 s.fin.line, .int .i64 s.fin.col, .int .i64 s.til] 119 (0, 0)) := by rw [hX]; exact heap_alloc_new _ _
  have u0 : X.cell? ⟨w.heap.size, 0, none⟩ = some (.int .i64 s.kind) := by rw [cell_of BX]; rfl
  have u1 : X.cell? ⟨w.heap.size, 1, none⟩ = some (.string s.label) := by rw [cell_of BX]; rfl
  have HX := (show Hid _ from hX.symm)
  clear hX
  go_enter Tryz.func57, Tryz.ntmps57
  go_upto_region 1 with fail
  rw [HX.out]
  go_quiet ((go_at_call 73; exact Calls.quiet_of_same (keyword_any _ _)))
  rw [H0.out]
  obtain ⟨wq, hwq⟩ : ∃ wq, wq = X.drewN nq := ⟨_, rfl⟩
  rw [← hwq]
  have kq : Kept [] w wq := by rw [hwq]; exact kX.drewN _
  have Bq : wq.heap[w.heap.size]? = some (.cells #[.int .i64 s.kind, .string s.label, .slice ha.ao s.symbols.length ha.cap, .slice hb.ao s.proof.length hb.cap, .string s.fin.file, .int .i64 s.fin.line, .int .i64 s.fin.col, .int .i64 s.til] 119 (0, 0)) := by rw [hwq]; exact ((Kept.refl [] X).drewN _).get BX (by simp)
  have v2 : wq.cell? ⟨w.heap.size, 2, none⟩ = some (.slice ha.ao s.symbols.length ha.cap) := by rw [cell_of Bq]; rfl
  have hvq := hv.still kq
  have hbz := lt_of_get Bq
  clear hwq u0 u1
  go_wp2
  go_loopg [3, 4] s.symbols.length (fun g tv i wr => ∃ k : Nat, k ≤ s.symbols.length ∧ g = s.symbols.length - k ∧ i = .int .i64 k ∧ tv = .string (lineTo s k) ∧ wr = wq)
  case atStart => exact ⟨0, by omega, by omega, rfl, rfl, rfl⟩
  case round =>
    obtain ⟨k, hk, hg, rfl, rfl, rfl⟩ := hrel
    by_cases hlt : k < s.symbols.length
    · have hsz := lineTo_size s sz k hk
      have hx := sz.syms _ (List.getElem_mem hlt)
      have HT := (show Hid _ from (lineTo_next s k hlt).symm)
      have hki : (k : Int) < s.symbols.length := by omega
      rcases hvq with hn | ⟨g, off, cur, t, e1, e2, e3, e4, e5⟩
      · rw [hn] at hlt; simp at hlt
      · have cx : wr.cell? ⟨g, off + k, none⟩ = some (.string s.symbols[k]) := by rw [cell_of e2]; exact e3 k _ (List.getElem?_eq_getElem hlt)
        rw [e1] at v2
        have hsn := lineTo_size s sz (k + 1) hlt
        clear e3
        generalize s.symbols[k] = y at *
        generalize lineTo s k = tx at *
        go_wp2
        go_roundg (s.symbols.length - (k + 1))
        case measure => omega
        case rel => exact ⟨k + 1, by omega, rfl, by go_num, congrArg Value.string HT.out, rfl⟩
    · have e : k = s.symbols.length := by omega
      subst e
      go_wp2
      go_ret
      exact ⟨rfl, kq⟩

end Go.Proofs.YtcipkfhpcbddiaaGreat

/- Package frames: pairsOf. -/
namespace Go.Proofs.YtcipkfhpcbddiaaGreat
open Go.RowKit

abbrev Pr := ByteArray × ByteArray
def prV (p : Pr) : List Value := [.string p.1, .string p.2]
def prsV (l : List Pr) : List Value := l.flatMap prV
def rowPr (l : List Pr) : Row := ⟨128, 2, l.length, prsV l⟩
theorem rowPr_snoc (l : List Pr) (x : Pr) : (⟨(rowPr l).e, (rowPr l).size, (rowPr l).n + 1, (rowPr l).xs ++ [.string x.1, .string x.2]⟩ : Row) = rowPr (l ++ [x]) := by
  simp [rowPr, prsV, prV]
theorem infoPr : (Tryz.prog.info? 128).map (fun i => (i.zero, i.size, i.bytes)) = some (some (.agg #[.string ⟨#[]⟩, .string ⟨#[]⟩]), 2, 32) := by kernel_rfl

def gD (vs : List ByteArray) (i : Nat) : ByteArray := vs.getD i ⟨#[]⟩
/-- The pairs of variable i with those behind it, up to k. -/
def prRow (vs : List ByteArray) (ms : List Bool) (i k : Nat) : List Pr := ((List.range k).filter (fun j => decide (i < j) && apartF vs.length ms i j)).map (fun j => (gD vs i, gD vs j))
def prTo (vs : List ByteArray) (ms : List Bool) (i : Nat) : List Pr := (List.range i).flatMap (fun i => prRow vs ms i vs.length)
def prsF (vs : List ByteArray) (ms : List Bool) : List Pr := prTo vs ms vs.length
theorem prRow_zero (vs : List ByteArray) (ms : List Bool) (i : Nat) : prRow vs ms i (i + 1) = [] := by
  unfold prRow
  rw [List.map_eq_nil_iff, List.filter_eq_nil_iff]
  intro j hj
  have := List.mem_range.1 hj
  simp; omega
theorem prRow_yes (vs : List ByteArray) (ms : List Bool) (i k : Nat) (hi : i < k) (h : apartF vs.length ms i k = true) : prRow vs ms i (k + 1) = prRow vs ms i k ++ [(gD vs i, gD vs k)] := by
  unfold prRow
  rw [List.range_succ, List.filter_append, List.map_append]
  simp [hi, h]
theorem prRow_no (vs : List ByteArray) (ms : List Bool) (i k : Nat) (h : apartF vs.length ms i k = false) : prRow vs ms i (k + 1) = prRow vs ms i k := by
  unfold prRow
  rw [List.range_succ, List.filter_append, List.map_append]
  simp [h]
theorem prTo_next (vs : List ByteArray) (ms : List Bool) (i : Nat) : prTo vs ms (i + 1) = prTo vs ms i ++ prRow vs ms i vs.length := by
  unfold prTo; rw [List.range_succ, List.flatMap_append]; simp
theorem prRow_len (vs : List ByteArray) (ms : List Bool) (i k : Nat) : (prRow vs ms i k).length ≤ k := by
  unfold prRow
  rw [List.length_map]
  have := List.length_filter_le (fun j => decide (i < j) && apartF vs.length ms i j) (List.range k)
  simpa using this
theorem prTo_len (vs : List ByteArray) (ms : List Bool) (i : Nat) : (prTo vs ms i).length ≤ i * vs.length := by
  induction i with
  | zero => simp [prTo]
  | succ i ih =>
    rw [prTo_next, List.length_append, Nat.add_mul]
    have := prRow_len vs ms i vs.length
    omega
/-- The pairs on the way. -/
def prAt (vs : List ByteArray) (ms : List Bool) (i j : Nat) : List Pr := prTo vs ms i ++ prRow vs ms i j
theorem prAt_len (vs : List ByteArray) (ms : List Bool) (i j : Nat) (hi : i ≤ 10000) (hv : vs.length ≤ 10000) (hj : j ≤ 10000) : (prAt vs ms i j).length ≤ 100010000 := by
  unfold prAt
  rw [List.length_append]
  have h1 := prTo_len vs ms i
  have h2 := prRow_len vs ms i j
  have h3 : i * vs.length ≤ 10000 * 10000 := Nat.mul_le_mul hi hv
  omega
theorem prs_len (vs : List ByteArray) (ms : List Bool) (h : vs.length ≤ 10000) : (prsF vs ms).length ≤ 100000000 := by
  have h1 := prTo_len vs ms vs.length
  have h2 : vs.length * vs.length ≤ 10000 * 10000 := Nat.mul_le_mul h h
  unfold prsF
  omega

set_option maxHeartbeats 2000000 in
set_option maxRecDepth 100000 in
theorem pairsOf_any (b o a : Nat) (l : List St) (H : Nat → Hd) (hw : Hd) (vs : List ByteArray) (w : World) (h : RecAt w b o l H) (ok : RecOk l) (hO : Owns w hw (rowS vs)) (hvl : vs.length ≤ 10000) :
    Calls Tryz.prog 72 #[.pointer (some ⟨b, o, none⟩), .int .i64 a, .slice hw.ao vs.length hw.cap] w fun e w' => ∃ hd : Hd, e = .returned (.slice hd.ao (prsF vs (marksF l a vs)).length hd.cap) ∧ Owns w' hd (rowPr (prsF vs (marksF l a vs))) ∧ (∀ x, hd.blk = some x → w.heap.size ≤ x) ∧ Kept [] w w' := by
  obtain ⟨i0, hi, hz0, hz1, hz2⟩ := info_parts infoPr
  have HAT := (show Hid _ from at_any b o a l H hw vs w h ok hO hvl)
  have hmlen : (marksF l a vs).length = vs.length * vs.length := marksTo_len l a vs _
  generalize marksF l a vs = ms at *
  obtain ⟨AO, HAO⟩ : ∃ AO, Hid (hw.ao = AO) := ⟨_, rfl⟩
  rw [HAO.out] at HAT ⊢
  go_enter Tryz.func72, Tryz.ntmps72
  go_wp2_with fail
  refine Calls.mono HAT.out ?_
  rintro e w1 ⟨tb, hv, hm, rfl, hA1, htb, hvb, k1⟩
  go_wp2
  go_loopg [8, 9] vs.length (fun gk sv i wr => ∃ (k : Nat) (hd : Hd), k ≤ vs.length ∧ gk = vs.length - k ∧ i = .int .i64 k ∧ sv = .slice hd.ao (prTo vs ms k).length hd.cap ∧ Owns wr hd (rowPr (prTo vs ms k)) ∧ (∀ x, hd.blk = some x → w1.heap.size ≤ x) ∧ Kept [] w1 wr)
  case atStart => exact ⟨0, ⟨none, 0⟩, by omega, by omega, rfl, rfl, World.ownsRow_nil _ _ _ _, by intro x hx; simp [Hd.blk] at hx, Kept.refl _ _⟩
  case round =>
    obtain ⟨k, hd, hk, hg, rfl, rfl, hO1, hN, hK⟩ := hrel
    by_cases hlt : k < vs.length
    · have HNX := (show Hid _ from prTo_next vs ms k)
      have HZ := (show Hid _ from prRow_zero vs ms k)
      have HB : Hid (prAt vs ms k (k + 1) = prTo vs ms k) := by show prTo vs ms k ++ _ = _; rw [HZ.out, List.append_nil]
      have HE : Hid (prAt vs ms k vs.length = prTo vs ms (k + 1)) := HNX.out.symm
      go_wp2_with fail
      go_loopg [8, 10] (vs.length - (k + 1)) (fun gk2 sv2 i2 wr2 => ∃ (j : Nat) (hd2 : Hd), k < j ∧ j ≤ vs.length ∧ gk2 = vs.length - j ∧ i2 = .int .i64 j ∧ sv2 = .slice hd2.ao (prAt vs ms k j).length hd2.cap ∧ Owns wr2 hd2 (rowPr (prAt vs ms k j)) ∧ (∀ x, hd2.blk = some x → w1.heap.size ≤ x) ∧ Kept [] w1 wr2)
      case atStart => exact ⟨k + 1, hd, by omega, by omega, rfl, by go_num, by rw [HB.out], by rw [HB.out]; exact hO1, hN, hK⟩
      case round =>
        obtain ⟨j, hd2, hkj, hj, hg2, rfl, rfl, hO2, hN2, hK2⟩ := hrel
        clear hO1 hN hK
        have hPl := prAt_len vs ms k j (by omega) hvl (by omega)
        by_cases hlj : j < vs.length
        · have hA2 := hA1.still hK2
          have hOv : Owns wr hw (rowS vs) := hO.moved (fun x hx => (k1.trans hK2).block x (hO.lt hx) (by simp))
          rcases hOv.ways with ⟨_, h0, _⟩ | ⟨gv, curv, ev, ev2, ev3, -⟩
          · have : vs.length = 0 := h0
            omega
          have cv1 := hOv.cell ev k (.string vs[k]) (by simp [rowS, strs, hlt])
          have cv2 := hOv.cell ev j (.string vs[j]) (by simp [rowS, strs, hlj])
          have hgv0 := hO.lt (k := gv) (by unfold Hd.blk; rw [ev]; rfl)
          have hAO : AO = some ⟨gv, 0, none⟩ := by rw [← HAO.out]; exact ev
          subst hAO
          have hgv := lt_of_get ev2
          have hgk : gD vs k = vs[k] := getD_at vs k hlt
          have hgj : gD vs j = vs[j] := getD_at vs j hlj
          have HY : Hid (apartF vs.length ms k j = true → prAt vs ms k (j + 1) = prAt vs ms k j ++ [(gD vs k, gD vs j)]) := fun hp => by unfold prAt; rw [prRow_yes vs ms k j hkj hp, List.append_assoc]
          have HN0 : Hid (apartF vs.length ms k j = false → prAt vs ms k (j + 1) = prAt vs ms k j) := fun hp => by unfold prAt; rw [prRow_no vs ms k j hp]
          rw [hgk, hgj] at HY
          clear hgk hgj ev2 hOv
          have hki : (k : Int) < vs.length := by omega
          have hji : (j : Int) < vs.length := by omega
          have hk0 : (0 : Int) ≤ k := by omega
          have hj0 : (0 : Int) ≤ j := by omega
          generalize vs[k] = x at *
          generalize vs[j] = y at *
          cases hap : apartF vs.length ms k j
          · have HT := (show Hid _ from HN0.out hap)
            clear HY HN0
            go_wp2_with (go_at_call 90; refine (apart_any tb vs ms hv hm k j _ (by exact hA2) hmlen hvl hlt hlj).mono ?_; rintro e w9 ⟨rfl, hw9⟩; rw [hw9, hap])
            go_roundg (vs.length - (j + 1))
            case measure => omega
            case rel => exact ⟨j + 1, hd2, by omega, by omega, rfl, by go_num, by rw [HT.out], by rw [HT.out]; exact hO2, hN2, hK2⟩
          · have HT := (show Hid _ from HY.out hap)
            clear HY HN0
            generalize prAt vs ms k j = PL at *
            have s3 : Hid (∀ u ∈ ([.string x, .string y] : List Value), u.oneCell' = true) := by
              intro u hu; simp at hu; rcases hu with rfl | rfl <;> rfl
            have s4 : Hid ((rowPr PL).n + 1 ≤ maxLen) := by show _ ≤ _; simp only [rowPr]; unfold maxLen; omega
            have s5 : Hid (((rowPr PL).n + 1) * 32 ≤ 140737488355328) := by show _ ≤ _; simp only [rowPr]; omega
            have K4 : Hid (Kept [] wr (wr.alloc (.cells #[.string x, .string y] 128)).drew) := ((Kept.refl [] wr).alloc _).drew
            have hD : Hid (Owns (wr.alloc (.cells #[.string x, .string y] 128)).drew hd2 (rowPr PL)) := hO2.moved (fun z hz => K4.out.block z (hO2.lt hz) (by simp))
            have s2 : Hid (∀ j u, ([.string x, .string y] : List Value)[j]? = some u → (wr.alloc (.cells #[.string x, .string y] 128)).drew.cell? ((⟨wr.heap.size, 0, none⟩ : Addr).add j) = some u) := by
              intro j u hj
              rw [addr_add]
              have hk : (wr.alloc (.cells #[.string x, .string y] 128)).drew.heap[wr.heap.size]? = some (.cells #[.string x, .string y] 128 (0, 0)) := heap_alloc_new _ _
              rw [cell_of hk]; simpa using hj
            have HS : Hid (∀ w5, (wr.alloc (.cells #[.string x, .string y] 128)).drew.grownBy w5 hd2.blk → w5.cell? ⟨gv, k, none⟩ = some (.string x) ∧ w5.cell? ⟨gv, j, none⟩ = some (.string y)) := by
              intro w5 hgr
              have e : w5.heap[gv]? = wr.heap[gv]? := (hgr.block gv (Nat.lt_of_lt_of_le hgv K4.out.size) (fun e => by have := hN2 gv e.symm; have := k1.size; omega)).trans (K4.out.block gv hgv (by simp))
              exact ⟨by rw [World.cell?_of_block e]; exact cv1, by rw [World.cell?_of_block e]; exact cv2⟩
            go_upto_region 10 with (go_at_call 90; refine (apart_any tb vs ms hv hm k j _ (by exact hA2) hmlen hvl hlt hlj).mono ?_; rintro e w9 ⟨rfl, hw9⟩; rw [hw9, hap])
            go_region_held3 (fun w' => w'.cell? ⟨gv, k, none⟩ = some (.string x) ∧ w'.cell? ⟨gv, j, none⟩ = some (.string y)) (go_keep) ((refine step_append_row (by rfl) (.tmp 33) (.tmp 43) 122 (by rfl) i0 (.agg #[.string ⟨#[]⟩, .string ⟨#[]⟩]) 32 hd2 (rowPr PL) Tryz.underlying122 hi hz0 hz1 hz2 rfl Nat.two_pos (by simp [Act.eval] <;> rfl) hD.out ⟨wr.heap.size, 0, none⟩ 1 1 [.string x, .string y] (by simp [Act.eval]) rfl s2.out s3.out Nat.one_pos s4.out s5.out ?_; intro g5 cap5 w5 hw5 hgr5 hfresh5; obtain ⟨q1, q2⟩ := HS.out w5 hgr5))
            rw [rowPr_snoc PL (x, y), ← HT.out] at hw5
            have hK5 := (hK2.trans K4.out).grown hgr5 hN2
            have hg5 : w1.heap.size ≤ g5 := by
              rcases hfresh5 with e | e
              · exact hN2 g5 e
              · have := (hK2.trans K4.out).size; simp at e this; omega
            have hEl : Hid ((rowPr PL).n + 1 = (prAt vs ms k (j + 1)).length) := by show _ = _; rw [HT.out]; simp [rowPr]
            rw [hEl.out]
            clear hgr5 hfresh5 q1 q2
            go_wp2
            go_roundg (vs.length - (j + 1))
            case measure => omega
            case rel => exact ⟨j + 1, ⟨some ⟨g5, 0, none⟩, cap5⟩, by omega, by omega, rfl, by go_num, rfl, hw5, by intro x hx; simp [Hd.blk] at hx; omega, hK5⟩
        · have e : j = vs.length := by omega
          subst e
          rw [HE.out] at hO2 ⊢
          go_wp2
          go_roundg (vs.length - (k + 1))
          case measure => omega
          case rel => exact ⟨k + 1, hd2, by omega, rfl, by go_num, rfl, hO2, hN2, hK2⟩
    · have e : k = vs.length := by omega
      subst e
      go_wp2
      go_ret
      exact ⟨hd, rfl, hO1, fun x hx => by have := hN x hx; have := k1.size; omega, k1.trans hK⟩

end Go.Proofs.YtcipkfhpcbddiaaGreat
