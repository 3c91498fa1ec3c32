/- Our texts: Rec2, Rec3, Rec4, Rec5, Ap1, Ap2, Ap3. -/
import Derived.BigQuiet
import Derived.Test.YtcipkfhpcbddiaaGreatG11
/- Package frames: the looks. Lists of texts that are only read. -/
namespace Go.Proofs.YtcipkfhpcbddiaaGreat
open Go.RowKit

/-- A list of texts that is only read: a slice of some array. -/
def View (w : World) (h : Hd) (l : List ByteArray) : Prop :=
  l = [] ∨ ∃ g off cur t, h.ao = some ⟨g, off, none⟩ ∧ w.heap[g]? = some (.cells cur t (0, 0)) ∧ (∀ j x, l[j]? = some x → cur[off + j]? = some (.string x)) ∧ l.length ≤ h.cap ∧ h.cap ≤ 9223372036854775807
theorem Owns.view {w : World} {h : Hd} {l : List ByteArray} (o : Owns w h (rowS l)) : View w h l := by
  rcases o.ways with ⟨_, h0, _⟩ | ⟨g, cur, e1, e2, e3, e4, e5, e6⟩
  · exact Or.inl (List.eq_nil_of_length_eq_zero h0)
  · refine Or.inr ⟨g, 0, cur, _, e1, e2, ?_, e3, by unfold maxLen at e4; exact e4⟩
    intro j x hj
    have hjl : j < l.length := (List.getElem?_eq_some_iff.1 hj).1
    have e6' : cur.toList.take (l.length * 1) = strs l := e6
    have : (strs l)[j]? = some (.string x) := by simp [strs, hj]
    rw [← e6', List.getElem?_take] at this
    rw [Nat.zero_add]
    simp at this
    exact this.2
theorem View.kept {w w' : World} {h : Hd} {l : List ByteArray} {S : List Nat} (v : View w h l) (k : Kept S w w') (hS : ∀ x, h.blk = some x → x ∉ S) : View w' h l := by
  rcases v with v | ⟨g, off, cur, t, e1, e2, e3⟩
  · exact Or.inl v
  · exact Or.inr ⟨g, off, cur, t, e1, k.get e2 (hS g (by unfold Hd.blk; rw [e1]; rfl)), e3⟩
theorem View.still {w w' : World} {h : Hd} {l : List ByteArray} (v : View w h l) (k : Kept [] w w') : View w' h l := v.kept k (by simp)

theorem ret_str {a b : ByteArray} (h : a = b) : Ending.returned (.string a) = .returned (.string b) := by rw [h]

set_option maxHeartbeats 400000 in
theorem fhas_any (hd : Hd) (l : List ByteArray) (x : ByteArray) (w : World) (hv : View w hd l) (hl : l.length ≤ 1073741824) :
    Calls Tryz.prog 102 #[.slice hd.ao l.length hd.cap, .string x] w fun e w' => e = .returned (.bool (hasF l x)) ∧ w' = w := by
  obtain ⟨ao, cap⟩ := hd
  rcases hv with rfl | ⟨g, off, cur, t, e1, e2, e3, e4, e5⟩
  · clear hl
    go_enter Tryz.func102, Tryz.ntmps102
    go_wp2
    refine wp_loop_rounds 1 ?_
    rw [rounds_succ]
    go_wp2
    go_ret
    exact ⟨rfl, rfl⟩
  · simp only at e1
    subst e1
    go_enter Tryz.func102, Tryz.ntmps102
    go_wp2
    go_loopg [5] l.length (fun g i wr => ∃ k : Nat, k ≤ l.length ∧ g = l.length - k ∧ i = .int .i64 k ∧ Hid (hasF l x = hasF (l.drop k) x) ∧ wr = w)
    case atStart => exact ⟨0, by omega, by omega, rfl, rfl, rfl⟩
    case round =>
      obtain ⟨k, hk, hg, rfl, hs, rfl⟩ := hrel
      by_cases hlt : k < l.length
      · have c1 : wr.cell? ⟨g, off + k, none⟩ = some (.string l[k]) := (cell_of e2 (off + k)).trans (e3 k l[k] (List.getElem?_eq_getElem hlt))
        cases hb : ((l[k]).toList == x.toList)
        · have HM : Hid (hasF l x = hasF (l.drop (k + 1)) x) := has_miss l x k hlt hs.out hb
          clear hs e3
          go_wp2
          go_roundg (l.length - (k + 1))
          case measure => omega
          case rel => exact ⟨k + 1, by omega, rfl, by go_num, HM, rfl⟩
        · have HM : Hid (hasF l x = true) := has_hit l x k hlt hs.out hb
          clear hs e3
          go_wp2
          go_ret
          exact ⟨ret_bool HM.out.symm, rfl⟩
      · have HM : Hid (hasF l x = false) := has_over l x k hlt hs.out
        clear hs e3
        go_wp2
        go_ret
        exact ⟨ret_bool HM.out.symm, rfl⟩

/-- The first symbol; what a $f types. -/
def typecodeF (s : St) : ByteArray := s.symbols.getD 0 ⟨#[]⟩
def variableF (s : St) : ByteArray := if (s.kind == 2) = true ∧ 2 ≤ s.symbols.length then s.symbols.getD 1 ⟨#[]⟩ else ⟨#[]⟩

theorem getD_at (l : List ByteArray) (k : Nat) (h : k < l.length) : l.getD k ⟨#[]⟩ = l[k] := by rw [List.getD_eq_getElem?_getD, List.getElem?_eq_getElem h]; rfl

set_option maxHeartbeats 800000 in
theorem typecode_any (s : St) (ha hb : Hd) (w : World) (hv : View w ha s.symbols) (hl : s.symbols.length ≤ 1073741824) :
    Calls Tryz.prog 144 #[stVal s ha hb] w fun e w' => e = .returned (.string (typecodeF s)) ∧ Kept [] w w' := by
  unfold stVal
  obtain ⟨ao, cap⟩ := ha
  rcases hv with e0 | ⟨g, off, cur, t, e1, e2, e3, e4, e5⟩
  · have HT : Hid (typecodeF s = ⟨#[]⟩) := by show _ = _; unfold typecodeF; rw [e0]; rfl
    rw [e0]
    simp only [List.length_nil]
    clear hl e0
    go_enter Tryz.func144, Tryz.ntmps144
    go_wp2
    go_ret
    exact ⟨ret_str HT.out.symm, (Kept.refl _ _).alloc _⟩
  · simp only at e1
    subst e1
    by_cases hz : s.symbols.length = 0
    · have hz1 : ((s.symbols.length : Int) == 0) = true := by simp [hz]
      have HT : Hid (typecodeF s = ⟨#[]⟩) := by show _ = _; unfold typecodeF; rw [List.eq_nil_of_length_eq_zero hz]; rfl
      clear hz
      go_enter Tryz.func144, Tryz.ntmps144
      go_wp2
      go_ret
      exact ⟨ret_str HT.out.symm, (Kept.refl _ _).alloc _⟩
    · have hz1 : ((s.symbols.length : Int) == 0) = false := beq_eq_false_iff_ne.2 (by omega)
      have hz2 : 0 < s.symbols.length := by omega
      have HT : Hid (typecodeF s = s.symbols[0]) := getD_at _ _ hz2
      have c1 : w.cell? ⟨g, off, none⟩ = some (.string s.symbols[0]) := (cell_of e2 off).trans (e3 0 _ (List.getElem?_eq_getElem hz2))
      have hgw := lt_of_get e2
      clear e3 hz
      go_enter Tryz.func144, Tryz.ntmps144
      go_wp2
      go_ret
      exact ⟨ret_str HT.out.symm, (Kept.refl _ _).alloc _⟩

set_option maxHeartbeats 800000 in
theorem variable_any (s : St) (ha hb : Hd) (w : World) (hv : View w ha s.symbols) (hl : s.symbols.length ≤ 1073741824) :
    Calls Tryz.prog 89 #[stVal s ha hb] w fun e w' => e = .returned (.string (variableF s)) ∧ Kept [] w w' := by
  unfold stVal
  cases k2 : (s.kind == 2)
  · have k2' : (s.kind != 2) = true := by simp [bne, k2]
    have HT : Hid (variableF s = ⟨#[]⟩) := by show _ = _; unfold variableF; rw [k2]; simp
    go_enter Tryz.func89, Tryz.ntmps89
    go_wp2
    go_ret
    exact ⟨ret_str HT.out.symm, (Kept.refl _ _).alloc _⟩
  · have k2' : (s.kind != 2) = false := by simp [bne, k2]
    by_cases hz : s.symbols.length < 2
    · have HT : Hid (variableF s = ⟨#[]⟩) := by show _ = _; unfold variableF; rw [if_neg (by omega)]
      go_enter Tryz.func89, Tryz.ntmps89
      go_wp2
      go_ret
      exact ⟨ret_str HT.out.symm, (Kept.refl _ _).alloc _⟩
    · have hz2 : 1 < s.symbols.length := by omega
      obtain ⟨ao, cap⟩ := ha
      rcases hv with e0 | ⟨g, off, cur, t, e1, e2, e3, e4, e5⟩
      · rw [e0] at hz2; simp at hz2
      · simp only at e1
        subst e1
        have HT : Hid (variableF s = s.symbols[1]) := by show _ = _; unfold variableF; rw [if_pos ⟨k2, by omega⟩]; exact getD_at _ _ hz2
        have c1 : w.cell? ⟨g, off + 1, none⟩ = some (.string s.symbols[1]) := (cell_of e2 (off + 1)).trans (e3 1 _ (List.getElem?_eq_getElem hz2))
        have hgw := lt_of_get e2
        clear e3
        go_enter Tryz.func89, Tryz.ntmps89
        go_wp2
        go_ret
        exact ⟨ret_str HT.out.symm, (Kept.refl _ _).alloc _⟩

def mandF (s : St) (syms : List ByteArray) : Bool := if (s.kind == 2) = true then hasF syms (variableF s) else (s.kind == 3)

set_option maxHeartbeats 800000 in
theorem isMandatory_any (s : St) (ha hb hd : Hd) (l : List ByteArray) (w : World) (hv : View w ha s.symbols) (hvl : View w hd l) (hl : s.symbols.length ≤ 1073741824) (hl2 : l.length ≤ 1073741824) :
    Calls Tryz.prog 81 #[stVal s ha hb, .slice hd.ao l.length hd.cap] w fun e w' => e = .returned (.bool (mandF s l)) ∧ Kept [] w w' := by
  have VA := fun (w' : World) (hv' : View w' ha s.symbols) => variable_any s ha hb w' hv' hl
  have HVA := (show Hid _ from VA)
  unfold stVal at HVA ⊢
  clear VA
  cases k2 : (s.kind == 2)
  · have HT : Hid (mandF s l = (s.kind == 3)) := by show _ = _; unfold mandF; rw [k2]; simp
    go_enter Tryz.func81, Tryz.ntmps81
    go_wp2
    go_ret
    exact ⟨ret_bool (by rw [HT.out]), (Kept.refl _ _).alloc _⟩
  · have HT : Hid (mandF s l = hasF l (variableF s)) := by show _ = _; unfold mandF; rw [k2]; simp
    go_enter Tryz.func81, Tryz.ntmps81
    go_wp2_with fail
    refine (HVA.out _ (by exact hv.still ((Kept.refl [] _).alloc _))).mono ?_
    rintro e w2 ⟨rfl, hk2⟩
    have hk := ((Kept.refl [] w).alloc _).trans hk2
    go_wp2_with fail
    refine (fhas_any hd l _ _ (by exact hvl.still hk) hl2).mono ?_
    rintro e w3 ⟨rfl, rfl⟩
    go_wp2
    go_ret
    exact ⟨ret_bool (by rw [HT.out]), hk⟩

end Go.Proofs.YtcipkfhpcbddiaaGreat

/- Package frames: which symbols count, which hypotheses are mandatory. -/
namespace Go.Proofs.YtcipkfhpcbddiaaGreat
open Go.RowKit

/-- A record that can be read from data: each statement has a symbol; nothing is long. -/
structure RecOk (l : List St) : Prop where
  len : l.length ≤ 10000
  pos : ∀ i (h : i < l.length), 0 < l[i].symbols.length
  syms : ∀ i (h : i < l.length), l[i].symbols.length ≤ 10000
  prfs : ∀ i (h : i < l.length), l[i].proof.length ≤ 10000

theorem Kept.grown {w wr w1 : World} {b : Option Nat} (K : Kept [] w wr) (g : wr.grownBy w1 b) (hb : ∀ k, b = some k → w.heap.size ≤ k) : Kept [] w w1 :=
  ⟨g.os.trans K.os, g.tape.trans K.tape, g.output.trans K.output, Nat.le_trans K.size g.size, fun k hk _ => (g.block k (Nat.lt_of_lt_of_le hk K.size) (fun e => by have := hb k e.symm; omega)).trans (K.block k hk (by simp))⟩

theorem field_syms (w : World) (k l c u : Int) (lab f : ByteArray) (a1 a2 : Option Addr) (n1 c1 n2 c2 : Nat) :
    (Instr.field 119 (.agg #[.int .i64 k, .string lab, .slice a1 n1 c1, .slice a2 n2 c2, .string f, .int .i64 l, .int .i64 c, .int .i64 u]) 2).run Tryz.prog w = .ok (.slice a1 n1 c1) w := by kernel_rfl
attribute [local go_sem] field_syms

/-- The $e that are active at a. -/
def essF (l : List St) (a n : Nat) : Bool := match l[n]? with | some s => (s.kind == 3) && heldF l n a | none => false
theorem ess_eq (l : List St) (a n : Nat) (h : n < l.length) : essF l a n = ((l[n].kind == 3) && heldF l n a) := by
  unfold essF; rw [List.getElem?_eq_getElem h]
def symsTo (l : List St) (a k : Nat) : List ByteArray := symsAt l a ++ ((List.range k).filter (essF l a)).flatMap (symsAt l)
def symsOfF (l : List St) (a : Nat) : List ByteArray := symsTo l a l.length
theorem symsAt_eq (l : List St) (n : Nat) (h : n < l.length) : symsAt l n = l[n].symbols := by
  unfold symsAt; rw [List.getElem?_eq_getElem h]
theorem symsTo_zero (l : List St) (a : Nat) : symsTo l a 0 = symsAt l a := by unfold symsTo; rw [List.range_zero]; rw [List.filter_nil, List.flatMap_nil, List.append_nil]
theorem symsTo_yes (l : List St) (a k : Nat) (h : essF l a k = true) : symsTo l a (k + 1) = symsTo l a k ++ symsAt l k := by
  unfold symsTo; rw [List.range_succ, List.filter_append]; simp [h]
theorem symsTo_no (l : List St) (a k : Nat) (h : essF l a k = false) : symsTo l a (k + 1) = symsTo l a k := by
  unfold symsTo; rw [List.range_succ, List.filter_append]; simp [h]
theorem symsTo_len (l : List St) (a k : Nat) (ok : RecOk l) (ha : a < l.length) (hk : k ≤ l.length) : (symsTo l a k).length ≤ 10000 + k * 10000 := by
  induction k with
  | zero =>
    have := ok.syms a ha
    have e := congrArg List.length (symsTo_zero l a)
    have e2 := congrArg List.length (symsAt_eq l a ha)
    omega
  | succ k ih =>
    have := ih (by omega)
    cases h : essF l a k with
    | true =>
      have e := congrArg List.length (symsTo_yes l a k h)
      have e2 := congrArg List.length (symsAt_eq l k (by omega))
      have := ok.syms k (by omega)
      rw [List.length_append] at e
      omega
    | false =>
      have e := congrArg List.length (symsTo_no l a k h)
      omega

set_option maxHeartbeats 2000000 in
set_option maxRecDepth 100000 in
theorem symbolsOf_any (b o a : Nat) (l : List St) (H : Nat → Hd) (w : World) (h : RecAt w b o l H) (ha : a < l.length) (ok : RecOk l) :
    Calls Tryz.prog 79 #[.pointer (some ⟨b, o, none⟩), .int .i64 a] w fun e w' => ∃ hd : Hd, e = .returned (.slice hd.ao (symsOfF l a).length hd.cap) ∧ Owns w' hd (rowS (symsOfF l a)) ∧ (∀ k, hd.blk = some k → w.heap.size ≤ k) ∧ Kept [] w w' := by
  obtain ⟨i0, hi, hz0, hz1, hz2⟩ := info_parts infoS
  have hlen := ok.len
  have hbw := h.lt
  go_enter Tryz.func79, Tryz.ntmps79
  go_wp2_with fail
  refine (statement_any b o a l H _ h ha).mono ?_
  rintro e w1 ⟨rfl, hk1⟩
  have h1 := h.still hk1
  have O1 := h1.sts.syms a l[a] (List.getElem?_eq_getElem ha)
  have hp := ok.pos a ha
  have hm := ok.syms a ha
  rcases O1.ways with ⟨_, h0, _⟩ | ⟨g1, cur1, e1, -⟩
  · have : l[a].symbols.length = 0 := h0
    omega
  · unfold stVal
    rw [e1]
    have hsrc : Hid (∀ j u, (strs l[a].symbols)[j]? = some u → w1.cell? ((⟨g1, 0, none⟩ : Addr).add j) = some u) := fun j u hj => by rw [addr_add]; exact O1.cell e1 j u hj
    have ES : Hid (symsTo l a 0 = l[a].symbols) := by show _ = _; rw [symsTo_zero]; exact symsAt_eq l a ha
    have HO : Hid (Owns w1 ⟨none, 0⟩ (rowS [])) := World.ownsRow_nil _ _ _ _
    clear O1
    go_wp2_with (at_builtin; refine wpList_append_row _ rfl (.tmp 8) (.tmp 12) 22 rfl i0 (.string ⟨#[]⟩) 16 ⟨none, 0⟩ (rowS []) Tryz.underlying22 hi hz0 hz1 hz2 rfl Nat.one_pos rfl HO.out ⟨g1, 0, none⟩ l[a].symbols.length (H (10 + 2 * a)).cap (strs l[a].symbols) rfl ?c0 hsrc.out (strs_one _) hp ?c3 ?c4 ?_)
    case c0 => simp [strs, rowS]
    case c3 => simp only [rowS, List.length_nil]; unfold maxLen; omega
    case c4 => simp only [rowS, List.length_nil]; omega
    intro g cap' w2 hw2 hgr hfresh
    rw [rowS_more [] l[a].symbols, List.nil_append, ← ES.out] at hw2
    have hK2 : Kept [] w w2 := hk1.grown hgr (by simp [Hd.blk])
    have hg2 : w.heap.size ≤ g := by
      rcases hfresh with e | e
      · simp [Hd.blk] at e
      · exact Nat.le_trans hk1.size e
    have hEl : Hid ((rowS []).n + l[a].symbols.length = (symsTo l a 0).length) := by show _ = _; rw [ES.out]; simp [rowS]
    rw [hEl.out]
    clear hsrc HO hgr hfresh h1 hk1 e1 hp hm hEl ES
    go_wp2
    go_loopg [5, 6] l.length (fun gk sv i wr => ∃ (k : Nat) (hd : Hd), k ≤ l.length ∧ gk = l.length - k ∧ i = .int .i64 k ∧ sv = .slice hd.ao (symsTo l a k).length hd.cap ∧ Owns wr hd (rowS (symsTo l a k)) ∧ (∀ x, hd.blk = some x → w.heap.size ≤ x) ∧ Kept [] w wr)
    case atStart => exact ⟨0, ⟨some ⟨g, 0, none⟩, cap'⟩, by omega, by omega, rfl, rfl, hw2, by intro x hx; simp [Hd.blk] at hx; omega, hK2⟩
    case round =>
      obtain ⟨k, hd, hk, hg, rfl, rfl, hO, hN, hK⟩ := hrel
      have hr := h.still hK
      clear hw2 hK2
      by_cases hlt : k < l.length
      · have hsl := symsTo_len l a k ok ha (by omega)
        have HES := (show Hid _ from ess_eq l a k hlt)
        have hsk := ok.syms k hlt
        have hpk := ok.pos k hlt
        have OK' := hr.sts.syms k l[k] (List.getElem?_eq_getElem hlt)
        rcases OK'.ways with ⟨_, h0, _⟩ | ⟨gk', curk, ek, -⟩
        · have : l[k].symbols.length = 0 := h0
          omega
        · have SY : Hid (symsAt l k = l[k].symbols) := symsAt_eq l k hlt
          cases hkd : (l[k].kind == 3)
          · have HT : Hid (symsTo l a (k + 1) = symsTo l a k) := symsTo_no l a k (by rw [HES.out, hkd]; rfl)
            clear HES OK'
            go_wp2_with (first | (go_at_call 45; refine (count_any b o l H _ (by exact hr)).mono ?_; rintro e w3 ⟨rfl, rfl⟩) | (go_at_call 53; refine (statement_any b o k l H _ (by exact hr) hlt).mono ?_; rintro e w3 ⟨rfl, hk3⟩; unfold stVal))
            go_roundg (l.length - (k + 1))
            case measure => omega
            case rel => exact ⟨k + 1, hd, by omega, rfl, by go_num, by rw [HT.out], by rw [HT.out]; exact hO.moved (fun x hx => (hk3.trans ((Kept.refl [] _).alloc _)).block x (hO.lt hx) (by simp)), hN, (hK.trans hk3).alloc _⟩
          · go_wp2_with (first | (go_at_call 45; refine (count_any b o l H _ (by exact hr)).mono ?_; rintro e wc ⟨rfl, rfl⟩) | (go_at_call 53; refine (statement_any b o k l H _ (by exact hr) hlt).mono ?_; rintro e w3 ⟨rfl, hk3⟩; unfold stVal))
            obtain ⟨W4, hW4⟩ : ∃ W4, W4 = w3.alloc (.cells #[.int .i64 l[k].kind, .string l[k].label, .slice (some ⟨gk', 0, none⟩) l[k].symbols.length (H (10 + 2 * k)).cap, .slice (H (11 + 2 * k)).ao l[k].proof.length (H (11 + 2 * k)).cap, .string l[k].fin.file, .int .i64 l[k].fin.line, .int .i64 l[k].fin.col, .int .i64 l[k].til] 119) := ⟨_, rfl⟩
            rw [← hW4]
            have k4 : Kept [] wc W4 := by rw [hW4]; exact hk3.alloc _
            have B4 : W4.heap[w3.heap.size]? = some (.cells #[.int .i64 l[k].kind, .string l[k].label, .slice (some ⟨gk', 0, none⟩) l[k].symbols.length (H (10 + 2 * k)).cap, .slice (H (11 + 2 * k)).ao l[k].proof.length (H (11 + 2 * k)).cap, .string l[k].fin.file, .int .i64 l[k].fin.line, .int .i64 l[k].fin.col, .int .i64 l[k].til] 119 (0, 0)) := by rw [hW4]; exact heap_alloc_new _ _
            have q2 : W4.cell? ⟨w3.heap.size, 2, none⟩ = some (.slice (some ⟨gk', 0, none⟩) l[k].symbols.length (H (10 + 2 * k)).cap) := by rw [cell_of B4]; rfl
            have hr4 := hr.still k4
            have hO4 : Owns W4 hd (rowS (symsTo l a k)) := hO.moved (fun x hx => k4.block x (hO.lt hx) (by simp))
            have OK4 := hr4.sts.syms k l[k] (List.getElem?_eq_getElem hlt)
            have hK4 := hK.trans k4
            have hsrc : Hid (∀ j u, (strs l[k].symbols)[j]? = some u → W4.cell? ((⟨gk', 0, none⟩ : Addr).add j) = some u) := fun j u hj => by rw [addr_add]; exact OK4.cell ek j u hj
            clear hW4 hk3 k4 B4 hr hO OK' OK4 hK
            cases hh : heldF l k a
            · have HT : Hid (symsTo l a (k + 1) = symsTo l a k) := symsTo_no l a k (by rw [HES.out, hh]; simp)
              clear HES
              go_wp2_with (go_at_call 80; refine (holds_any b o k a l H _ (by exact hr4) hlt).mono ?_; rintro e w5 ⟨rfl, rfl⟩)
              go_roundg (l.length - (k + 1))
              case measure => omega
              case rel => exact ⟨k + 1, hd, by omega, rfl, by go_num, by rw [HT.out], by rw [HT.out]; exact hO4, hN, hK4⟩
            · have HT : Hid (symsTo l a (k + 1) = symsTo l a k ++ l[k].symbols) := by show _ = _; rw [symsTo_yes l a k (by rw [HES.out, hkd, hh]; rfl), SY.out]
              clear HES SY
              go_wp2_with (first | (go_at_call 80; refine (holds_any b o k a l H _ (by exact hr4) hlt).mono ?_; rintro e w5 ⟨rfl, rfl⟩) | (at_builtin; refine wpList_append_row _ rfl (.tmp 32) (.tmp 34) 22 rfl i0 (.string ⟨#[]⟩) 16 hd (rowS (symsTo l a k)) Tryz.underlying22 hi hz0 hz1 hz2 rfl Nat.one_pos rfl (by exact hO4) ⟨gk', 0, none⟩ l[k].symbols.length (H (10 + 2 * k)).cap (strs l[k].symbols) rfl ?d0 hsrc.out (strs_one _) hpk ?d3 ?d4 ?_))
              case d0 => simp [strs, rowS]
              case d3 => simp only [rowS]; unfold maxLen; omega
              case d4 => simp only [rowS]; omega
              intro g5 cap5 w5 hw5 hgr5 hfresh5
              rw [rowS_more (symsTo l a k) l[k].symbols, ← HT.out] at hw5
              have hK5 := hK4.grown hgr5 hN
              have hg5 : w.heap.size ≤ g5 := by
                rcases hfresh5 with e | e
                · exact hN g5 e
                · exact Nat.le_trans hK4.size e
              have hEl : Hid ((rowS (symsTo l a k)).n + l[k].symbols.length = (symsTo l a (k + 1)).length) := by show _ = _; rw [HT.out]; simp [rowS]
              rw [hEl.out]
              clear hsrc hgr5 hfresh5 q2 hO4
              go_wp2
              go_roundg (l.length - (k + 1))
              case measure => omega
              case rel => exact ⟨k + 1, ⟨some ⟨g5, 0, none⟩, cap5⟩, by omega, rfl, by go_num, rfl, hw5, by intro x hx; simp [Hd.blk] at hx; omega, hK5⟩
      · have e : k = l.length := by omega
        subst e
        go_wp2_with (go_at_call 45; refine (count_any b o l H _ (by exact hr)).mono ?_; rintro e w3 ⟨rfl, rfl⟩)
        go_ret
        exact ⟨hd, rfl, hO, hN, hK⟩

end Go.Proofs.YtcipkfhpcbddiaaGreat

/- Package frames: Hypotheses. -/
namespace Go.Proofs.YtcipkfhpcbddiaaGreat
open Go.RowKit

def mandAt (l : List St) (syms : List ByteArray) (a n : Nat) : Bool := match l[n]? with | some s => heldF l n a && mandF s syms | none => false
theorem mandAt_eq (l : List St) (syms : List ByteArray) (a n : Nat) (h : n < l.length) : mandAt l syms a n = (heldF l n a && mandF l[n] syms) := by
  unfold mandAt; rw [List.getElem?_eq_getElem h]
def hypsTo (l : List St) (a k : Nat) : List Nat := (List.range k).filter (mandAt l (symsOfF l a) a)
/-- The mandatory hypotheses of a, by their numbers. -/
def hypsF (l : List St) (a : Nat) : List Nat := hypsTo l a l.length
theorem hypsTo_yes (l : List St) (a k : Nat) (h : mandAt l (symsOfF l a) a k = true) : hypsTo l a (k + 1) = hypsTo l a k ++ [k] := by
  unfold hypsTo; rw [List.range_succ, List.filter_append]; simp [h]
theorem hypsTo_no (l : List St) (a k : Nat) (h : mandAt l (symsOfF l a) a k = false) : hypsTo l a (k + 1) = hypsTo l a k := by
  unfold hypsTo; rw [List.range_succ, List.filter_append]; simp [h]
theorem hypsTo_len (l : List St) (a k : Nat) : (hypsTo l a k).length ≤ k := by
  unfold hypsTo
  have := List.length_filter_le (mandAt l (symsOfF l a) a) (List.range k)
  simpa using this
theorem symsOf_len (l : List St) (a : Nat) (ok : RecOk l) (ha : a < l.length) : (symsOfF l a).length ≤ 1073741824 := by
  have h1 := symsTo_len l a l.length ok ha (Nat.le_refl _)
  have h2 := ok.len
  have h3 : l.length * 10000 ≤ 10000 * 10000 := Nat.mul_le_mul_right _ h2
  unfold symsOfF
  omega

set_option maxHeartbeats 2000000 in
set_option maxRecDepth 100000 in
theorem hypotheses_any (b o a : Nat) (l : List St) (H : Nat → Hd) (w : World) (h : RecAt w b o l H) (ha : a < l.length) (ok : RecOk l) :
    Calls Tryz.prog 66 #[.pointer (some ⟨b, o, none⟩), .int .i64 a] w fun e w' => ∃ hd : Hd, e = .returned (.slice hd.ao (hypsF l a).length hd.cap) ∧ Owns w' hd (rowN (hypsF l a)) ∧ (∀ k, hd.blk = some k → w.heap.size ≤ k) ∧ Kept [] w w' := by
  obtain ⟨i0, hi, hz0, hz1, hz2⟩ := info_parts infoN
  have hlen := ok.len
  have hbw := h.lt
  have hsyl := symsOf_len l a ok ha
  go_enter Tryz.func66, Tryz.ntmps66
  go_wp2_with fail
  refine (symbolsOf_any b o a l H _ h ha ok).mono ?_
  rintro e w1 ⟨hy, rfl, hOy, hNy, hk1⟩
  go_wp2
  go_loopg [5, 7] l.length (fun gk sv i wr => ∃ (k : Nat) (hd : Hd), k ≤ l.length ∧ gk = l.length - k ∧ i = .int .i64 k ∧ sv = .slice hd.ao (hypsTo l a k).length hd.cap ∧ Owns wr hd (rowN (hypsTo l a k)) ∧ (∀ x, hd.blk = some x → w1.heap.size ≤ x) ∧ Kept [] w1 wr)
  case atStart => exact ⟨0, ⟨none, 0⟩, by omega, by omega, rfl, rfl, World.ownsRow_nil _ _ _ _, by intro x hx; simp [Hd.blk] at hx, Kept.refl _ _⟩
  case round =>
    obtain ⟨k, hd, hk, hg, rfl, rfl, hO, hN, hK⟩ := hrel
    have hr := (h.still hk1).still hK
    have hVy : View wr hy (symsOfF l a) := (hOy.view).still hK
    have hhl := hypsTo_len l a k
    by_cases hlt : k < l.length
    · have HM := (show Hid _ from mandAt_eq l (symsOfF l a) a k hlt)
      have hsk := ok.syms k hlt
      have hVk := (hr.sts.syms k l[k] (List.getElem?_eq_getElem hlt)).view
      cases hh : heldF l k a
      · have HT : Hid (hypsTo l a (k + 1) = hypsTo l a k) := hypsTo_no l a k (by rw [HM.out, hh]; rfl)
        clear HM hVk hVy
        go_wp2_with (first | (go_at_call 45; refine (count_any b o l H _ (by exact hr)).mono ?_; rintro e wc ⟨rfl, rfl⟩) | (go_at_call 80; refine (holds_any b o k a l H _ (by exact hr) hlt).mono ?_; rintro e wd ⟨rfl, rfl⟩))
        go_roundg (l.length - (k + 1))
        case measure => omega
        case rel => exact ⟨k + 1, hd, by omega, rfl, by go_num, by rw [HT.out], by rw [HT.out]; exact hO, hN, hK⟩
      · have ME := fun (w' : World) (v1 : View w' (H (10 + 2 * k)) l[k].symbols) (v2 : View w' hy (symsOfF l a)) => isMandatory_any l[k] (H (10 + 2 * k)) (H (11 + 2 * k)) hy (symsOfF l a) w' v1 v2 (by omega) hsyl
        have HME := (show Hid _ from ME)
        clear ME
        cases hm : mandF l[k] (symsOfF l a)
        · have HT : Hid (hypsTo l a (k + 1) = hypsTo l a k) := hypsTo_no l a k (by rw [HM.out, hm]; simp)
          rw [hm] at HME
          clear HM
          go_wp2_with (first | (go_at_call 45; refine (count_any b o l H _ (by exact hr)).mono ?_; rintro e wc ⟨rfl, rfl⟩) | (go_at_call 80; refine (holds_any b o k a l H _ (by exact hr) hlt).mono ?_; rintro e wd ⟨rfl, rfl⟩) | (go_at_call 53; refine (statement_any b o k l H _ (by exact hr) hlt).mono ?_; rintro e w3 ⟨rfl, hk3⟩) | (go_at_call 81; refine (HME.out _ (by exact hVk.still hk3) (by exact hVy.still hk3)).mono ?_; rintro e w4 ⟨rfl, hk4⟩))
          go_roundg (l.length - (k + 1))
          case measure => omega
          case rel => exact ⟨k + 1, hd, by omega, rfl, by go_num, by rw [HT.out], by rw [HT.out]; exact hO.moved (fun x hx => (hk3.trans hk4).block x (hO.lt hx) (by simp)), hN, (hK.trans hk3).trans hk4⟩
        · have HT : Hid (hypsTo l a (k + 1) = hypsTo l a k ++ [k]) := hypsTo_yes l a k (by rw [HM.out, hh, hm]; rfl)
          rw [hm] at HME
          clear HM
          go_wp2_with (first | (go_at_call 45; refine (count_any b o l H _ (by exact hr)).mono ?_; rintro e wc ⟨rfl, rfl⟩) | (go_at_call 80; refine (holds_any b o k a l H _ (by exact hr) hlt).mono ?_; rintro e wd ⟨rfl, rfl⟩) | (go_at_call 53; refine (statement_any b o k l H _ (by exact hr) hlt).mono ?_; rintro e w3 ⟨rfl, hk3⟩) | (go_at_call 81; refine (HME.out _ (by exact hVk.still hk3) (by exact hVy.still hk3)).mono ?_; rintro e w4 ⟨rfl, hk4⟩; have hO4 := hO.moved (fun x hx => ((hk3.trans hk4).alloc (.cells #[.int .i64 k] 3)).block x (hO.lt hx) (by simp))) | (at_builtin; refine wpList_append_row _ rfl (.tmp 28) (.tmp 30) 45 rfl i0 (.int .i64 0) 8 hd (rowN (hypsTo l a k)) Tryz.underlying45 hi hz0 hz1 hz2 rfl Nat.one_pos rfl (by exact hO4) ⟨_, 0, none⟩ 1 1 [.int .i64 k] rfl rfl ?d1 ?d2 Nat.one_pos ?d3 ?d4 ?_))
          case d1 => intro j u hj; match j, hj with | 0, hj => simp at hj; subst hj; simp [Addr.add]
          case d2 => intro u hu; simp at hu; subst hu; rfl
          case d3 => simp only [rowN]; unfold maxLen; omega
          case d4 => simp only [rowN]; omega
          intro g5 cap5 w5 hw5 hgr5 hfresh5
          rw [rowN_snoc (hypsTo l a k) k, ← HT.out] at hw5
          have hK4 := ((hK.trans hk3).trans hk4).alloc (.cells #[.int .i64 k] 3)
          have hK5 := hK4.grown hgr5 hN
          have hg5 : w1.heap.size ≤ g5 := by
            rcases hfresh5 with e | e
            · exact hN g5 e
            · have := hK4.size; simp at e this; omega
          have hEl : Hid ((rowN (hypsTo l a k)).n + 1 = (hypsTo l a (k + 1)).length) := by show _ = _; rw [HT.out]; simp [rowN]
          rw [hEl.out]
          clear hgr5 hfresh5 hO4
          go_wp2
          go_roundg (l.length - (k + 1))
          case measure => omega
          case rel => exact ⟨k + 1, ⟨some ⟨g5, 0, none⟩, cap5⟩, by omega, rfl, by go_num, rfl, hw5, by intro x hx; simp [Hd.blk] at hx; omega, hK5⟩
    · have e : k = l.length := by omega
      subst e
      have hK' := hk1.trans hK
      have hs1 := hk1.size
      go_wp2_with (go_at_call 45; refine (count_any b o l H _ (by exact hr)).mono ?_; rintro e w3 ⟨rfl, rfl⟩)
      go_ret
      exact ⟨hd, rfl, hO, fun x hx => Nat.le_trans hs1 (hN x hx), hK'⟩

end Go.Proofs.YtcipkfhpcbddiaaGreat

/- Package frames: AllHypotheses. -/
namespace Go.Proofs.YtcipkfhpcbddiaaGreat
open Go.RowKit

theorem infoL : (Tryz.prog.info? 45).map (fun i => (i.zero, i.size, i.bytes)) = some (some (.slice none 0 0), 1, 24) := by kernel_rfl
theorem made_at (v : Value) (n i : Nat) (h : i < n) : (madeCells #[v] n)[i]? = some v := by
  simp [madeCells, h, Nat.mod_one]

def isAt (l : List St) (n : Nat) : Bool := match l[n]? with | some s => isA s.kind | none => false
theorem isAt_eq (l : List St) (n : Nat) (h : n < l.length) : isAt l n = isA l[n].kind := by
  unfold isAt; rw [List.getElem?_eq_getElem h]
/-- The mandatory hypotheses of each assertion below k; of the others none. -/
def hypsA (l : List St) (k n : Nat) : List Nat := if n < k ∧ isAt l n = true then hypsF l n else []
structure AllIs (w : World) (g : Nat) (l : List St) (k : Nat) (K : Nat → Hd) : Prop where
  arr : ∃ arr, w.heap[g]? = some (.cells arr 45 (0, 0)) ∧ arr.size = l.length ∧ ∀ n, n < l.length → arr[n]? = some (.slice (K n).ao (hypsA l k n).length (K n).cap)
  own : ∀ n, n < l.length → Owns w (K n) (rowN (hypsA l k n))
  off : ∀ n, (K n).blk ≠ some g
theorem AllIs.kept {w w' : World} {g : Nat} {l : List St} {k : Nat} {K : Nat → Hd} {S : List Nat} (h : AllIs w g l k K) (q : Kept S w w') (hg : g ∉ S) (hK : ∀ n x, (K n).blk = some x → x ∉ S) : AllIs w' g l k K := by
  obtain ⟨arr, h1, h2, h3⟩ := h.arr
  exact ⟨⟨arr, q.get h1 hg, h2, h3⟩, fun n hn => (h.own n hn).moved (fun x hx => q.block x ((h.own n hn).lt hx) (hK n x hx)), h.off⟩
theorem AllIs.still {w w' : World} {g : Nat} {l : List St} {k : Nat} {K : Nat → Hd} (h : AllIs w g l k K) (q : Kept [] w w') : AllIs w' g l k K := h.kept q (by simp) (by simp)
theorem AllIs.cell {w : World} {g : Nat} {l : List St} {k : Nat} {K : Nat → Hd} (h : AllIs w g l k K) (n : Nat) (hn : n < l.length) : w.cell? ⟨g, n, none⟩ = some (.slice (K n).ao (hypsA l k n).length (K n).cap) := by
  obtain ⟨arr, h1, h2, h3⟩ := h.arr
  rw [cell_of h1]; exact h3 n hn
theorem AllIs.free {w : World} {g : Nat} {l : List St} {k : Nat} {K : Nat → Hd} (h : AllIs w g l k K) (n : Nat) : w.frozen? ⟨g, n, none⟩ = false := by
  obtain ⟨arr, h1, h2, h3⟩ := h.arr
  exact free_of h1 n
theorem AllIs.lt {w : World} {g : Nat} {l : List St} {k : Nat} {K : Nat → Hd} (h : AllIs w g l k K) : g < w.heap.size := by
  obtain ⟨arr, h1, h2, h3⟩ := h.arr
  exact lt_of_get h1
theorem AllIs.skip {w : World} {g : Nat} {l : List St} {k : Nat} {K : Nat → Hd} (h : AllIs w g l k K) (hk : isAt l k = false) : AllIs w g l (k + 1) K := by
  have e : ∀ n, hypsA l (k + 1) n = hypsA l k n := by
    intro n
    unfold hypsA
    by_cases en : n = k
    · subst en; rw [if_neg (by rw [hk]; simp), if_neg (by rw [hk]; simp)]
    · have : (n < k + 1 ∧ isAt l n = true) ↔ (n < k ∧ isAt l n = true) := and_congr_left (fun _ => by omega)
      simp only [this]
  obtain ⟨arr, h1, h2, h3⟩ := h.arr
  exact ⟨⟨arr, h1, h2, fun n hn => by rw [e]; exact h3 n hn⟩, fun n hn => by rw [e]; exact h.own n hn, h.off⟩
theorem AllIs.store {w : World} {g : Nat} {l : List St} {k : Nat} {K : Nat → Hd} (h : AllIs w g l k K) (hk : isAt l k = true) (hkl : k < l.length) (hd : Hd) (o : Owns w hd (rowN (hypsF l k))) (hg : hd.blk ≠ some g) :
    AllIs (w.setCell ⟨g, k, none⟩ (.slice hd.ao (hypsF l k).length hd.cap)) g l (k + 1) (upd K k hd) := by
  have e : ∀ n, n ≠ k → hypsA l (k + 1) n = hypsA l k n := by
    intro n en
    unfold hypsA
    have : (n < k + 1 ∧ isAt l n = true) ↔ (n < k ∧ isAt l n = true) := and_congr_left (fun _ => by omega)
    simp only [this]
  have ek : hypsA l (k + 1) k = hypsF l k := by unfold hypsA; rw [if_pos ⟨by omega, hk⟩]
  obtain ⟨arr, h1, h2, h3⟩ := h.arr
  refine ⟨⟨_, block_setCell h1 _ _, by simpa using h2, ?_⟩, ?_, ?_⟩
  · intro n hn
    by_cases en : n = k
    · subst en
      rw [upd_same, ek]
      simp [h2, hn]
    · rw [upd_other _ _ _ _ en, e n en]
      rw [Array.getElem?_setIfInBounds_ne (by omega)]
      exact h3 n hn
  · intro n hn
    by_cases en : n = k
    · subst en
      rw [upd_same, ek]
      exact o.moved (fun x hx => Below.heap_setCell _ _ _ _ (by rintro rfl; exact hg hx))
    · rw [upd_other _ _ _ _ en, e n en]
      exact (h.own n hn).moved (fun x hx => Below.heap_setCell _ _ _ _ (by rintro rfl; exact h.off n hx))
  · intro n
    by_cases en : n = k
    · subst en; rw [upd_same]; exact hg
    · rw [upd_other _ _ _ _ en]; exact h.off n

set_option maxHeartbeats 2000000 in
set_option maxRecDepth 100000 in
theorem allHypotheses_any (b o : Nat) (l : List St) (H : Nat → Hd) (w : World) (h : RecAt w b o l H) (ok : RecOk l) :
    Calls Tryz.prog 52 #[.pointer (some ⟨b, o, none⟩)] w fun e w' => ∃ (g : Nat) (K : Nat → Hd), e = .returned (.slice (some ⟨g, 0, none⟩) l.length l.length) ∧ AllIs w' g l l.length K ∧ w.heap.size ≤ g ∧ (∀ n x, (K n).blk = some x → w.heap.size ≤ x) ∧ Kept [] w w' := by
  obtain ⟨i0, hi, hz0, hz1, hz2⟩ := info_parts infoL
  have hlen := ok.len
  have hbw := h.lt
  have m1 := fun w => run_make_row (P := Tryz.prog) w 116 45 i0 _ Tryz.underlying116 hi hz0 l.length 1 hz1 (by rw [hz2]; omega) (by omega)
  obtain ⟨mc, hmc⟩ : ∃ mc, mc = madeCells (Value.slice none 0 0).cells (l.length * 1) := ⟨_, rfl⟩
  rw [← hmc] at m1
  have A0 : Hid (AllIs (w.alloc (.cells mc 45)) w.heap.size l 0 noHd) := by
    refine ⟨⟨mc, heap_alloc_new _ _, by rw [hmc, size_madeCells]; omega, ?_⟩, ?_, fun n e => by simp [noHd, Hd.blk] at e⟩
    · intro n hn
      have e : hypsA l 0 n = [] := by unfold hypsA; rw [if_neg (by omega)]
      rw [e, hmc]
      exact made_at _ _ _ (by omega)
    · intro n hn
      have e : hypsA l 0 n = [] := by unfold hypsA; rw [if_neg (by omega)]
      rw [e]; exact World.ownsRow_nil _ _ _ _
  clear hmc
  go_enter Tryz.func52, Tryz.ntmps52
  go_wp2_with (go_at_call 45; refine (count_any b o l H _ (by exact h)).mono ?_; rintro e wc ⟨rfl, hwc⟩; rw [hwc])
  go_loopg [4] l.length (fun gk i wr => ∃ (k : Nat) (K : Nat → Hd), k ≤ l.length ∧ gk = l.length - k ∧ i = .int .i64 k ∧ AllIs wr w.heap.size l k K ∧ (∀ n x, (K n).blk = some x → w.heap.size ≤ x) ∧ Kept [] w wr)
  case atStart => exact ⟨0, noHd, by omega, by omega, rfl, A0.out, fun n x hx => by simp [noHd, Hd.blk] at hx, (Kept.refl _ _).alloc _⟩
  case round =>
    obtain ⟨k, K, hk, hg, rfl, hA, hN, hK⟩ := hrel
    have hr := h.still hK
    clear A0 m1
    by_cases hlt : k < l.length
    · have HI := (show Hid _ from isAt_eq l k hlt)
      cases ha : isA l[k].kind
      · have HS : Hid (AllIs wr w.heap.size l (k + 1) K) := hA.skip (by rw [HI.out, ha])
        clear HI
        go_wp2_with (first | (go_at_call 53; refine (statement_any b o k l H _ (by exact hr) hlt).mono ?_; rintro e w3 ⟨rfl, hk3⟩; unfold stVal) | (go_at_call 65; refine (isAssertion_any l[k].kind _ _ _ _ _ _ _ _).mono ?_; rintro e w4 ⟨rfl, hk4⟩))
        go_roundg (l.length - (k + 1))
        case measure => omega
        case rel => exact ⟨k + 1, K, by omega, rfl, by go_num, (HS.out.still hk3).still hk4, hN, (hK.trans hk3).trans hk4⟩
      · go_wp2_with (first | (go_at_call 53; refine (statement_any b o k l H _ (by exact hr) hlt).mono ?_; rintro e w3 ⟨rfl, hk3⟩; unfold stVal) | (go_at_call 65; refine (isAssertion_any l[k].kind _ _ _ _ _ _ _ _).mono ?_; rintro e w4 ⟨rfl, hk4⟩))
        have hk34 := hk3.trans hk4
        refine (hypotheses_any b o k l H _ (hr.still hk34) hlt ok).mono ?_
        rintro e w5 ⟨hd, rfl, hO5, hN5, hk5⟩
        have hA5 := (hA.still hk34).still hk5
        have hgl := (hA.still hk34).lt
        have hng : hd.blk ≠ some w.heap.size := fun e => by have := hN5 _ e; omega
        have HS := (show Hid _ from hA5.store (by rw [HI.out, ha]) hlt hd hO5 hng)
        have hK5 := (hK.trans hk34).trans hk5
        have hs3 := (hK.trans hk34).size
        have HN' : Hid (∀ n x, (upd K k hd n).blk = some x → w.heap.size ≤ x) := by
          intro n x hx
          by_cases e : n = k
          · subst e; rw [upd_same] at hx; have := hN5 x hx; omega
          · rw [upd_other _ _ _ _ e] at hx; exact hN n x hx
        have c1 := hA5.cell k hlt
        have hf := hA5.free
        clear hN5 hO5
        go_wp2
        go_roundg (l.length - (k + 1))
        case measure => omega
        case rel => exact ⟨k + 1, upd K k hd, by omega, rfl, by go_num, HS.out, HN'.out, hK5.setCell (Or.inr (Nat.le_refl _)) _⟩
    · have e : k = l.length := by omega
      subst e
      go_wp2
      go_ret
      exact ⟨w.heap.size, K, rfl, hA, Nat.le_refl _, hN, hK⟩

end Go.Proofs.YtcipkfhpcbddiaaGreat

/- Package apart: positions. -/
namespace Go.Proofs.YtcipkfhpcbddiaaGreat
open Go.RowKit

/-- Where in a list a word stands. -/
def posF (vs : List ByteArray) (x : ByteArray) : Option Nat := (List.range vs.length).find? (fun i => (vs.getD i ⟨#[]⟩).toList == x.toList)
def bools (l : List Bool) : List Value := l.map Value.bool
def rowBl (l : List Bool) : Row := ⟨4, 1, l.length, bools l⟩
/-- A table of variables: its own two lists. -/
structure ApIs (w : World) (tb : Nat) (vs : List ByteArray) (ms : List Bool) (hv hm : Hd) : Prop where
  blk : w.heap[tb]? = some (.cells #[.slice hv.ao vs.length hv.cap, .slice hm.ao ms.length hm.cap] 178 (0, 0))
  vars : Owns w hv (rowS vs)
  marks : Owns w hm (rowBl ms)
  o1 : hv.blk ≠ some tb
  o2 : hm.blk ≠ some tb
  o3 : hv.blk = none ∨ hv.blk ≠ hm.blk
theorem ApIs.cells {w : World} {tb : Nat} {vs : List ByteArray} {ms : List Bool} {hv hm : Hd} (h : ApIs w tb vs ms hv hm) : w.cell? ⟨tb, 0, none⟩ = some (.slice hv.ao vs.length hv.cap) ∧ w.cell? ⟨tb, 1, none⟩ = some (.slice hm.ao ms.length hm.cap) := by
  refine ⟨?_, ?_⟩ <;> (rw [cell_of h.blk]; rfl)
theorem ApIs.lt {w : World} {tb : Nat} {vs : List ByteArray} {ms : List Bool} {hv hm : Hd} (h : ApIs w tb vs ms hv hm) : tb < w.heap.size := lt_of_get h.blk
theorem ApIs.kept {w w' : World} {tb : Nat} {vs : List ByteArray} {ms : List Bool} {hv hm : Hd} {S : List Nat} (h : ApIs w tb vs ms hv hm) (k : Kept S w w') (h1 : tb ∉ S) (h2 : ∀ x, hv.blk = some x ∨ hm.blk = some x → x ∉ S) : ApIs w' tb vs ms hv hm :=
  ⟨k.get h.blk h1, h.vars.moved (fun x hx => k.block x (h.vars.lt hx) (h2 x (Or.inl hx))), h.marks.moved (fun x hx => k.block x (h.marks.lt hx) (h2 x (Or.inr hx))), h.o1, h.o2, h.o3⟩
theorem ApIs.still {w w' : World} {tb : Nat} {vs : List ByteArray} {ms : List Bool} {hv hm : Hd} (h : ApIs w tb vs ms hv hm) (k : Kept [] w w') : ApIs w' tb vs ms hv hm := h.kept k (by simp) (by simp)

set_option maxHeartbeats 800000 in
theorem position_any (tb : Nat) (vs : List ByteArray) (ms : List Bool) (hv hm : Hd) (x : ByteArray) (w : World) (h : ApIs w tb vs ms hv hm) (hl : vs.length ≤ 1073741824) :
    Calls Tryz.prog 125 #[.pointer (some ⟨tb, 0, none⟩), .string x] w fun e w' => e = .returned (.int .i64 (optV (posF vs x))) ∧ w' = w := by
  obtain ⟨c0, c1⟩ := h.cells
  go_enter Tryz.func125, Tryz.ntmps125
  go_wp2
  go_loopg [5] vs.length (fun g i wr => ∃ k : Nat, k ≤ vs.length ∧ g = vs.length - k ∧ i = .int .i64 k ∧ Hid (∀ i, i < k → ((vs.getD i ⟨#[]⟩).toList == x.toList) = false) ∧ wr = w)
  case atStart => exact ⟨0, by omega, by omega, rfl, fun i hi => by omega, rfl⟩
  case round =>
    obtain ⟨k, hk, hg, rfl, hall, rfl⟩ := hrel
    by_cases hlt : k < vs.length
    · rcases h.vars.ways with ⟨_, h0, _⟩ | ⟨g, cur, e1, -, e3, -⟩
      · have : vs.length = 0 := h0
        omega
      · have c2 := h.vars.cell e1 k (.string vs[k]) (strs_at vs k hlt)
        rw [e1] at c0
        have HG := (show Hid _ from getD_at vs k hlt)
        have hcp : vs.length ≤ hv.cap := e3
        generalize vs[k] = y at *
        cases hb : (y.toList == x.toList)
        · have HN : Hid (∀ i, i < k + 1 → ((vs.getD i ⟨#[]⟩).toList == x.toList) = false) := by
            intro i hi
            by_cases e : i = k
            · subst e; rw [HG.out]; exact hb
            · exact hall.out i (by omega)
          clear HG h
          go_wp2
          go_roundg (vs.length - (k + 1))
          case measure => omega
          case rel => exact ⟨k + 1, by omega, rfl, by go_num, HN, rfl⟩
        · have HF : Hid (posF vs x = some k) := range_hit hlt (by rw [HG.out]; exact hb) hall.out
          clear HG h
          go_wp2
          go_ret
          exact ⟨ret_int (by rw [HF.out]; rfl), rfl⟩
    · have HF : Hid (posF vs x = none) := range_none (fun i hi => hall.out i (by omega))
      clear h
      go_wp2
      go_ret
      exact ⟨ret_int (by rw [HF.out]; rfl), rfl⟩

/-- The positions of those words that stand in the list. -/
def positionsF (vs ws : List ByteArray) : List Nat := ws.filterMap (posF vs)
theorem positions_some (vs ws : List ByteArray) (k p : Nat) (h : k < ws.length) (hp : posF vs ws[k] = some p) : positionsF vs (ws.take (k + 1)) = positionsF vs (ws.take k) ++ [p] := by
  unfold positionsF; rw [take_snoc ws k h, List.filterMap_append]; simp [hp]
theorem positions_none (vs ws : List ByteArray) (k : Nat) (h : k < ws.length) (hp : posF vs ws[k] = none) : positionsF vs (ws.take (k + 1)) = positionsF vs (ws.take k) := by
  unfold positionsF; rw [take_snoc ws k h, List.filterMap_append]; simp [hp]
theorem positions_len (vs ws : List ByteArray) : (positionsF vs ws).length ≤ ws.length := List.length_filterMap_le _ _

set_option maxHeartbeats 1600000 in
set_option maxRecDepth 100000 in
theorem positions_any (tb : Nat) (vs : List ByteArray) (ms : List Bool) (hv hm hw : Hd) (ws : List ByteArray) (w : World) (h : ApIs w tb vs ms hv hm) (hl : vs.length ≤ 1073741824) (hvw : View w hw ws) (hwl : ws.length ≤ 1000000) :
    Calls Tryz.prog 107 #[.pointer (some ⟨tb, 0, none⟩), .slice hw.ao ws.length hw.cap] w fun e w' => ∃ hd : Hd, e = .returned (.slice hd.ao (positionsF vs ws).length hd.cap) ∧ Owns w' hd (rowN (positionsF vs ws)) ∧ (∀ x, hd.blk = some x → w.heap.size ≤ x) ∧ Kept [] w w' := by
  obtain ⟨i0, hi, hz0, hz1, hz2⟩ := info_parts infoN
  obtain ⟨ao, cap⟩ := hw
  rcases hvw with rfl | ⟨g, off, cur, t, e1, e2, e3, e4, e5⟩
  · clear hwl
    go_enter Tryz.func107, Tryz.ntmps107
    go_wp2
    refine wp_loop_rounds 1 ?_
    rw [rounds_succ]
    go_wp2
    go_ret
    exact ⟨⟨none, 0⟩, rfl, World.ownsRow_nil _ _ _ _, by intro x hx; simp [Hd.blk] at hx, Kept.refl _ _⟩
  simp only at e1
  subst e1
  go_enter Tryz.func107, Tryz.ntmps107
  go_wp2
  go_loopg [5, 6] ws.length (fun gk sv i wr => ∃ (k : Nat) (hd : Hd), k ≤ ws.length ∧ gk = ws.length - k ∧ i = .int .i64 k ∧ sv = .slice hd.ao (positionsF vs (ws.take k)).length hd.cap ∧ Owns wr hd (rowN (positionsF vs (ws.take k))) ∧ (∀ x, hd.blk = some x → w.heap.size ≤ x) ∧ Kept [] w wr)
  case atStart => exact ⟨0, ⟨none, 0⟩, by omega, by omega, rfl, rfl, World.ownsRow_nil _ _ _ _, by intro x hx; simp [Hd.blk] at hx, Kept.refl _ _⟩
  case round =>
    obtain ⟨k, hd, hk, hg, rfl, rfl, hO, hN, hK⟩ := hrel
    have hr := h.still hK
    have hlp := positions_len vs (ws.take k)
    have hlt' : (ws.take k).length ≤ k := by simp; omega
    by_cases hlt : k < ws.length
    · have c2 : wr.cell? ⟨g, off + k, none⟩ = some (.string ws[k]) := (cell_of (hK.get e2 (by simp)) (off + k)).trans (e3 k ws[k] (List.getElem?_eq_getElem hlt))
      · skip
        have PS := fun p => positions_some vs ws k p hlt
        have PN := positions_none vs ws k hlt
        have HPS := (show Hid _ from PS)
        have HPN := (show Hid _ from PN)
        have PA := position_any tb vs ms hv hm ws[k] wr hr hl
        have HPA := (show Hid _ from PA)
        clear PS PN PA e3
        generalize ws[k] = y at *
        rcases hp : posF vs y with _ | p
        · have HT := (show Hid _ from HPN.out hp)
          rw [hp] at HPA
          simp only [optV] at HPA
          clear HPS HPN
          go_wp2_with (go_at_call 125; refine Calls.mono HPA.out ?_; rintro e w3 ⟨rfl, rfl⟩)
          go_roundg (ws.length - (k + 1))
          case measure => omega
          case rel => exact ⟨k + 1, hd, by omega, rfl, by go_num, by rw [HT.out], by rw [HT.out]; exact hO, hN, hK⟩
        · have HT := (show Hid _ from HPS.out p hp)
          rw [hp] at HPA
          simp only [optV] at HPA
          have hO4 := hO.moved (fun x hx => ((Kept.refl [] wr).alloc (.cells #[.int .i64 p] 3)).block x (hO.lt hx) (by simp))
          clear HPS HPN
          go_wp2_with (first | (go_at_call 125; refine Calls.mono HPA.out ?_; rintro e w3 ⟨rfl, hw3⟩; rw [hw3]) | (at_builtin; refine wpList_append_row _ rfl (.tmp 22) (.tmp 24) 45 rfl i0 (.int .i64 0) 8 hd (rowN (positionsF vs (ws.take k))) Tryz.underlying45 hi hz0 hz1 hz2 rfl Nat.one_pos rfl (by exact hO4) ⟨_, 0, none⟩ 1 1 [.int .i64 p] rfl rfl ?d1 ?d2 Nat.one_pos ?d3 ?d4 ?_))
          case d1 => intro j u hj; match j, hj with | 0, hj => simp at hj; subst hj; simp [Addr.add]
          case d2 => intro u hu; simp at hu; subst hu; rfl
          case d3 => simp only [rowN]; unfold maxLen; omega
          case d4 => simp only [rowN]; omega
          intro g5 cap5 w5 hw5 hgr5 hfresh5
          rw [rowN_snoc (positionsF vs (ws.take k)) p, ← HT.out] at hw5
          have hK4 := hK.alloc (.cells #[.int .i64 p] 3)
          have hK5 := hK4.grown hgr5 hN
          have hg5 : w.heap.size ≤ g5 := by
            rcases hfresh5 with e | e
            · exact hN g5 e
            · have := hK4.size; simp at e this; omega
          have hEl : Hid ((rowN (positionsF vs (ws.take k))).n + 1 = (positionsF vs (ws.take (k + 1))).length) := by show _ = _; rw [HT.out]; simp [rowN]
          rw [hEl.out]
          clear hgr5 hfresh5 hO4
          go_wp2
          go_roundg (ws.length - (k + 1))
          case measure => omega
          case rel => exact ⟨k + 1, ⟨some ⟨g5, 0, none⟩, cap5⟩, by omega, rfl, by go_num, rfl, hw5, by intro x hx; simp [Hd.blk] at hx; omega, hK5⟩
    · have e : k = ws.length := by omega
      subst e
      rw [List.take_length] at hO ⊢
      go_wp2
      go_ret
      exact ⟨hd, rfl, hO, hN, hK⟩

end Go.Proofs.YtcipkfhpcbddiaaGreat

/- Package apart: marks. -/
namespace Go.Proofs.YtcipkfhpcbddiaaGreat
open Go.RowKit

def markRow (side mi : Nat) (mem : List Nat) (ms : List Bool) : List Bool := mem.foldl (fun ms mj => ms.set (mi * side + mj) true) ms
def markAllF (side : Nat) (mem : List Nat) (ms : List Bool) : List Bool := mem.foldl (fun ms mi => markRow side mi mem ms) ms
/-- The same as far as the first i, and of the next one the first j. -/
def markTo (side : Nat) (mem : List Nat) (ms : List Bool) (i j : Nat) : List Bool := markRow side (mem.getD i 0) (mem.take j) ((mem.take i).foldl (fun ms mi => markRow side mi mem ms) ms)
theorem markRow_len (side mi : Nat) (mem : List Nat) (ms : List Bool) : (markRow side mi mem ms).length = ms.length := by
  unfold markRow
  induction mem generalizing ms with
  | nil => rfl
  | cons a r ih => rw [List.foldl_cons, ih]; simp
theorem markFold_len (side : Nat) (mem r : List Nat) (ms : List Bool) : (r.foldl (fun ms mi => markRow side mi mem ms) ms).length = ms.length := by
  induction r generalizing ms with
  | nil => rfl
  | cons a r ih => rw [List.foldl_cons, ih, markRow_len]
theorem markTo_len (side : Nat) (mem : List Nat) (ms : List Bool) (i j : Nat) : (markTo side mem ms i j).length = ms.length := by
  unfold markTo; rw [markRow_len, markFold_len]
theorem markTo_step (side : Nat) (mem : List Nat) (ms : List Bool) (i j : Nat) (hj : j < mem.length) : markTo side mem ms i (j + 1) = (markTo side mem ms i j).set (mem.getD i 0 * side + mem[j]) true := by
  unfold markTo markRow
  rw [take_snoc mem j hj, List.foldl_append]; rfl
theorem markTo_row (side : Nat) (mem : List Nat) (ms : List Bool) (i : Nat) (hi : i < mem.length) : markTo side mem ms i mem.length = markTo side mem ms (i + 1) 0 := by
  have e : mem.getD i 0 = mem[i] := by rw [List.getD_eq_getElem?_getD, List.getElem?_eq_getElem hi]; rfl
  unfold markTo
  rw [List.take_length, take_snoc mem i hi, List.foldl_append, e]
  rfl
theorem markTo_end (side : Nat) (mem : List Nat) (ms : List Bool) : markTo side mem ms mem.length 0 = markAllF side mem ms := by
  unfold markTo markAllF; rw [List.take_length]; rfl

theorem bools_len (l : List Bool) : (bools l).length = l.length * 1 := by simp [bools]
theorem ApIs.mark {w : World} {tb : Nat} {vs : List ByteArray} {ms : List Bool} {hv hm : Hd} (h : ApIs w tb vs ms hv hm) (gm : Nat) (e : hm.ao = some ⟨gm, 0, none⟩) (i : Nat) (hi : i < ms.length) :
    ApIs (w.setCell ⟨gm, i, none⟩ (.bool true)) tb vs (ms.set i true) hv hm := by
  have hb : hm.blk = some gm := by unfold Hd.blk; rw [e]; rfl
  refine ⟨?_, ?_, ?_, h.o1, h.o2, h.o3⟩
  · rw [Below.heap_setCell _ _ _ _ (by rintro rfl; exact h.o2 hb), h.blk]; simp
  · refine h.vars.moved (fun x hx => Below.heap_setCell _ _ _ _ ?_)
    rintro rfl
    rcases h.o3 with a | a
    · rw [a] at hx; cases hx
    · exact a (hx.trans hb.symm)
  · rcases h.marks.ways with ⟨_, h0, _⟩ | ⟨g, cur, e1, e2, e3, e4, e5, e6⟩
    · have : ms.length = 0 := h0
      omega
    · have : g = gm := by rw [e] at e1; injection e1 with e1; injection e1 with e1; exact e1.symm
      subst this
      refine ⟨by simp only [rowBl]; rw [bools_len], Or.inr ⟨g, hm.cap, cur.setIfInBounds i (.bool true), ?_, Nat.zero_le _, block_setCell e2 _ _, ?_, e4, ?_, ?_⟩⟩
      · simp [rowBl, e]
      · simpa [rowBl] using e3
      · simpa [rowBl] using e5
      · have e6' : cur.toList.take (ms.length * 1) = bools ms := e6
        simp only [rowBl, List.length_set, Array.toList_setIfInBounds, List.take_set, e6']
        simp [bools, List.map_set]

theorem nums_at (l : List Nat) (k : Nat) (h : k < l.length) : (nums l)[k]? = some (.int .i64 l[k]) := by simp [nums, h]

set_option maxHeartbeats 2000000 in
set_option maxRecDepth 100000 in
theorem markAll_any (tb : Nat) (vs : List ByteArray) (ms : List Bool) (hv hm hw : Hd) (mem : List Nat) (w : World) (h : ApIs w tb vs ms hv hm) (hml : ms.length = vs.length * vs.length) (hvl : vs.length ≤ 10000) (hO : Owns w hw (rowN mem)) (hmm : mem.length ≤ 1000000)
    (hin : ∀ i (hi : i < mem.length), mem[i] < vs.length) (hne : ∀ x, hw.blk = some x → hm.blk ≠ some x) :
    Calls Tryz.prog 106 #[.pointer (some ⟨tb, 0, none⟩), .slice hw.ao mem.length hw.cap] w fun e w' => e = .returned (.tuple #[]) ∧ ApIs w' tb vs (markAllF vs.length mem ms) hv hm ∧ KeptP (fun k => hm.blk = some k) w w' := by
  obtain ⟨ao, cap⟩ := hw
  rcases hO.ways with ⟨e0, h0, _⟩ | ⟨g, cur, e1, e2, e3, e4, -⟩
  · have h0' : mem.length = 0 := h0
    have hl0 : mem = [] := List.eq_nil_of_length_eq_zero h0'
    subst hl0
    clear hO h0 h0' e0 hmm hin hne
    go_enter Tryz.func106, Tryz.ntmps106
    go_wp2
    refine wp_loop_rounds 1 ?_
    rw [rounds_succ]
    go_wp2
    go_end0
    exact ⟨rfl, h, KeptP.refl _ _⟩
  simp only at e1 e3 e4
  have hcp : mem.length ≤ cap := e3
  have e4' : cap ≤ 9223372036854775807 := by unfold maxLen at e4; exact e4
  subst e1
  have hgb : hm.blk ≠ some g := hne g rfl
  go_enter Tryz.func106, Tryz.ntmps106
  go_wp2
  go_loopg [4] mem.length (fun gk i wr => ∃ k : Nat, k ≤ mem.length ∧ gk = mem.length - k ∧ i = .int .i64 k ∧ ApIs wr tb vs (markTo vs.length mem ms k 0) hv hm ∧ KeptP (fun k => hm.blk = some k) w wr)
  case atStart => exact ⟨0, by omega, by omega, rfl, h, KeptP.refl _ _⟩
  case round =>
    obtain ⟨k, hk, hg, rfl, hA, hK⟩ := hrel
    by_cases hlt : k < mem.length
    · have HR := (show Hid _ from markTo_row vs.length mem ms k hlt)
      go_wp2_with fail
      go_loopg [5] mem.length (fun gk2 i2 wr2 => ∃ j : Nat, j ≤ mem.length ∧ gk2 = mem.length - j ∧ i2 = .int .i64 j ∧ ApIs wr2 tb vs (markTo vs.length mem ms k j) hv hm ∧ KeptP (fun k => hm.blk = some k) w wr2)
      case atStart => exact ⟨0, by omega, by omega, rfl, hA, hK⟩
      case round =>
        obtain ⟨j, hj, hg2, rfl, hA2, hK2⟩ := hrel
        clear hA hK
        by_cases hlj : j < mem.length
        · have hxk := hin k hlt
          have hxj := hin j hlj
          have hOw : Owns wr ⟨some ⟨g, 0, none⟩, cap⟩ (rowN mem) := hO.moved (fun x hx => hK2.block x (hO.lt hx) (fun e => hne x hx e))
          have p1 := hOw.cell rfl k (.int .i64 mem[k]) (nums_at mem k hlt)
          have p2 := hOw.cell rfl j (.int .i64 mem[j]) (nums_at mem j hlj)
          obtain ⟨c0, c1⟩ := hA2.cells
          rw [markTo_len] at c1
          have ST := markTo_step vs.length mem ms k j hlj
          have eg : mem.getD k 0 = mem[k] := by rw [List.getD_eq_getElem?_getD, List.getElem?_eq_getElem hlt]; rfl
          rw [eg] at ST
          have hb1 : mem[k] * vs.length + mem[j] < ms.length := by
            rw [hml]
            have : (mem[k] + 1) * vs.length ≤ vs.length * vs.length := Nat.mul_le_mul_right _ hxk
            rw [Nat.add_mul] at this
            omega
          have hb2 : mem[k] * vs.length ≤ 10000 * 10000 := Nat.mul_le_mul (by omega) hvl
          have HMK := (show Hid _ from fun gm e => hA2.mark gm e (mem[k] * vs.length + mem[j]) (by rw [markTo_len]; exact hb1))
          have HST := (show Hid _ from ST)
          rcases hA2.marks.ways with ⟨_, h0, _⟩ | ⟨gm, curm, em, em2, em3, -⟩
          · have : (markTo vs.length mem ms k j).length = 0 := h0
            rw [markTo_len] at this
            omega
          · have em3' : ms.length ≤ hm.cap := by have : (markTo vs.length mem ms k j).length ≤ hm.cap := em3; rw [markTo_len] at this; exact this
            have hfm := free_of em2
            have hgm := lt_of_get em2
            have p3 := hA2.marks.cell em (mem[k] * vs.length + mem[j]) (.bool ((markTo vs.length mem ms k j)[mem[k] * vs.length + mem[j]]'(by rw [markTo_len]; exact hb1))) (by simp [rowBl, bools, markTo_len, hb1])
            rw [em] at c1
            clear ST em2 em3 hOw
            generalize (markTo vs.length mem ms k j)[mem[k] * vs.length + mem[j]]'(by rw [markTo_len]; exact hb1) = old at *
            generalize hx : mem[k] = x at *
            generalize hy : mem[j] = y at *
            obtain ⟨q, hq⟩ : ∃ q, x * vs.length = q := ⟨_, rfl⟩
            have hq' : (x : Int) * (vs.length : Int) = (q : Int) := by rw [← hq]; simp
            rw [hq] at hb1 hb2 p3 HMK HST
            clear hx hy eg
            go_wp2_with fail
            go_quiet (fail)
            go_wp2
            go_roundg (mem.length - (j + 1))
            case measure => omega
            case rel => exact ⟨j + 1, by omega, rfl, by go_num, by rw [HST.out]; exact (HMK.out gm em).still ((Kept.refl [] _).drewN nq), (hK2.still ((Kept.refl [] _).drewN nq)).setCell (Or.inl (by unfold Hd.blk; rw [em]; rfl)) _⟩
        · have e : j = mem.length := by omega
          subst e
          rw [HR.out] at hA2
          go_wp2
          go_roundg (mem.length - (k + 1))
          case measure => omega
          case rel => exact ⟨k + 1, by omega, rfl, by go_num, hA2, hK2⟩
    · have e : k = mem.length := by omega
      subst e
      rw [markTo_end] at hA
      go_wp2
      go_end0
      exact ⟨rfl, hA, hK⟩

end Go.Proofs.YtcipkfhpcbddiaaGreat

/- Package apart: Apart, At. -/
namespace Go.Proofs.YtcipkfhpcbddiaaGreat
open Go.RowKit

/-- Are these the positions of two different variables that are marked? -/
def apartF (side : Nat) (ms : List Bool) (i j : Nat) : Bool := !(i == j) && ms.getD (i * side + j) false

theorem square_lt {i j n : Nat} (hi : i < n) (hj : j < n) : i * n + j < n * n := by
  have : (i + 1) * n ≤ n * n := Nat.mul_le_mul_right _ hi
  rw [Nat.add_mul] at this
  omega

set_option maxHeartbeats 1600000 in
theorem apart_any (tb : Nat) (vs : List ByteArray) (ms : List Bool) (hv hm : Hd) (i j : Nat) (w : World) (h : ApIs w tb vs ms hv hm) (hml : ms.length = vs.length * vs.length) (hvl : vs.length ≤ 10000) (hi : i < vs.length) (hj : j < vs.length) :
    Calls Tryz.prog 90 #[.pointer (some ⟨tb, 0, none⟩), .int .i64 i, .int .i64 j] w fun e w' => e = .returned (.bool (apartF vs.length ms i j)) ∧ w' = w := by
  obtain ⟨c0, c1⟩ := h.cells
  have hb1 : i * vs.length + j < ms.length := by rw [hml]; exact square_lt hi hj
  have hb2 : i * vs.length ≤ 10000 * 10000 := Nat.mul_le_mul (by omega) hvl
  rcases h.marks.ways with ⟨_, h0, _⟩ | ⟨gm, curm, em, em2, em3, -⟩
  · have : ms.length = 0 := h0
    omega
  · have em3' : ms.length ≤ hm.cap := em3
    have p3 := h.marks.cell em (i * vs.length + j) (.bool ms[i * vs.length + j]) (by simp [rowBl, bools, hb1])
    have eg : ms.getD (i * vs.length + j) false = ms[i * vs.length + j] := by rw [List.getD_eq_getElem?_getD, List.getElem?_eq_getElem hb1]; rfl
    have HA : Hid (apartF vs.length ms i j = (!(i == j) && ms[i * vs.length + j])) := by show _ = _; unfold apartF; rw [eg]
    rw [em] at c1
    generalize ms[i * vs.length + j] = old at *
    obtain ⟨q, hq⟩ : ∃ q, i * vs.length = q := ⟨_, rfl⟩
    have hq' : (i : Int) * (vs.length : Int) = (q : Int) := by rw [← hq]; simp
    rw [hq] at hb1 hb2 p3
    clear eg em2 em3 h
    by_cases hij : i = j
    · have hd : ((i : Int) != (j : Int)) = false := by simp [hij]
      have HT : Hid (apartF vs.length ms i j = false) := by show _ = _; rw [HA.out]; simp [hij]
      clear HA
      go_enter Tryz.func90, Tryz.ntmps90
      go_wp2
      go_ret
      exact ⟨ret_bool HT.out.symm, rfl⟩
    · have hd : ((i : Int) != (j : Int)) = true := by simp; omega
      have HT : Hid (apartF vs.length ms i j = old) := by show _ = _; rw [HA.out]; simp [hij]
      clear HA
      go_enter Tryz.func90, Tryz.ntmps90
      go_wp2
      go_ret
      exact ⟨ret_bool HT.out.symm, rfl⟩

def disjF (l : List St) (a n : Nat) : Bool := match l[n]? with | some s => (s.kind == 1) && heldF l n a | none => false
theorem disj_eq (l : List St) (a n : Nat) (h : n < l.length) : disjF l a n = ((l[n].kind == 1) && heldF l n a) := by
  unfold disjF; rw [List.getElem?_eq_getElem h]
def marksTo (l : List St) (a : Nat) (vs : List ByteArray) : Nat → List Bool
  | 0 => List.replicate (vs.length * vs.length) false
  | k + 1 => if disjF l a k = true then markAllF vs.length (positionsF vs (symsAt l k)) (marksTo l a vs k) else marksTo l a vs k
/-- Which two of the variables stand together in a $d that is active at a. -/
def marksF (l : List St) (a : Nat) (vs : List ByteArray) : List Bool := marksTo l a vs l.length
theorem marksTo_len (l : List St) (a : Nat) (vs : List ByteArray) (k : Nat) : (marksTo l a vs k).length = vs.length * vs.length := by
  induction k with
  | zero => simp [marksTo]
  | succ k ih =>
    rw [marksTo]
    split
    · unfold markAllF; rw [markFold_len, ih]
    · exact ih
theorem posF_lt {vs : List ByteArray} {x : ByteArray} {p : Nat} (h : posF vs x = some p) : p < vs.length := by
  have := List.mem_of_find?_eq_some h
  simpa using this
theorem positions_lt (vs ws : List ByteArray) (i : Nat) (h : i < (positionsF vs ws).length) : (positionsF vs ws)[i] < vs.length := by
  have hm := List.getElem_mem h
  unfold positionsF at hm
  rw [List.mem_filterMap] at hm
  obtain ⟨x, _, hx⟩ := hm
  exact posF_lt hx

theorem infoBl : (Tryz.prog.info? 4).map (fun i => (i.zero, i.size, i.bytes)) = some (some (.bool false), 1, 1) := by kernel_rfl
theorem made_all (v : Value) (n : Nat) : madeCells #[v] n = (List.replicate n v).toArray := by
  apply Array.ext
  · rw [size_madeCells]; simp
  · intro i h1 h2
    have h : i < n := by rw [size_madeCells] at h1; exact h1
    have := made_at v n i h
    rw [Array.getElem?_eq_getElem h1] at this
    simp at this ⊢
    exact this
theorem build_tab (w : World) (a1 a2 : Option Addr) (n1 c1 n2 c2 : Nat) : (Instr.build 178 #[(0, .slice a1 n1 c1), (1, .slice a2 n2 c2)]).run Tryz.prog w = .ok (.agg #[.slice a1 n1 c1, .slice a2 n2 c2]) w :=
  run_build w 178 _ _ (by kernel_rfl)
attribute [local go_sem] build_tab

theorem Kept.ofP {P : Nat → Prop} {w wr w1 : World} (K : Kept [] w wr) (g : KeptP P wr w1) (hb : ∀ k, P k → w.heap.size ≤ k) : Kept [] w w1 :=
  ⟨g.os.trans K.os, g.tape.trans K.tape, g.output.trans K.output, Nat.le_trans K.size g.size, fun k hk _ => (g.block k (Nat.lt_of_lt_of_le hk K.size) (fun e => by have := hb k e; omega)).trans (K.block k hk (by simp))⟩

set_option maxHeartbeats 2000000 in
set_option maxRecDepth 100000 in
theorem at_any (b o a : Nat) (l : List St) (H : Nat → Hd) (hw : Hd) (vs : List ByteArray) (w : World) (h : RecAt w b o l H) (ok : RecOk l) (hO : Owns w hw (rowS vs)) (hvl : vs.length ≤ 10000) :
    Calls Tryz.prog 85 #[.pointer (some ⟨b, o, none⟩), .int .i64 a, .slice hw.ao vs.length hw.cap] w fun e w' => ∃ (tb : Nat) (hv hm : Hd), e = .returned (.pointer (some ⟨tb, 0, none⟩)) ∧ ApIs w' tb vs (marksF l a vs) hv hm ∧ w.heap.size ≤ tb ∧ (∀ x, hv.blk = some x ∨ hm.blk = some x → w.heap.size ≤ x) ∧ Kept [] w w' := by
  obtain ⟨i0, hi, hz0, hz1, hz2⟩ := info_parts infoS
  obtain ⟨i1, hi1, hy0, hy1, hy2⟩ := info_parts infoBl
  have hlen := ok.len
  have hbw := h.lt
  obtain ⟨q, hq⟩ : ∃ q, vs.length * vs.length = q := ⟨_, rfl⟩
  have hq' : (vs.length : Int) * (vs.length : Int) = (q : Int) := by rw [← hq]; simp
  have hql : q ≤ 10000 * 10000 := by rw [← hq]; exact Nat.mul_le_mul hvl hvl
  have m1 := fun w => run_make_row (P := Tryz.prog) w 22 9 i0 _ Tryz.underlying22 hi hz0 vs.length 1 hz1 (by rw [hz2]; omega) (by omega)
  have m2 := fun w => run_make_row (P := Tryz.prog) w 176 4 i1 _ Tryz.underlying176 hi1 hy0 q 1 hy1 (by rw [hy2]; omega) (by omega)
  obtain ⟨mc1, hmc1⟩ : ∃ mc, mc = madeCells (Value.string ⟨#[]⟩).cells (vs.length * 1) := ⟨_, rfl⟩
  obtain ⟨mc2, hmc2⟩ : ∃ mc, mc = madeCells (Value.bool false).cells (q * 1) := ⟨_, rfl⟩
  have z1 : mc1.size = vs.length * 1 := by rw [hmc1, size_madeCells]
  have HZ2 : Hid (mc2 = (bools (marksTo l a vs 0)).toArray) := by
    show _ = _
    rw [hmc2, Nat.mul_one, ← hq]
    have : (Value.bool false).cells = #[.bool false] := rfl
    rw [this, made_all]
    simp [marksTo, bools]
  rw [← hmc1] at m1
  rw [← hmc2] at m2
  clear hmc1 hmc2
  have K2 : Kept [] w (w.alloc (.cells mc1 9)) := (Kept.refl [] _).alloc _
  have Hsz1 : Hid ((Tryz.prog.info? (rowS vs).e).map (·.size) = some (rowS vs).size) := by show _ = _; simp [rowS, hi, hz1]
  obtain ⟨w3, cp1, hg3, hk3, hz3⟩ := copy_full (P := Tryz.prog) (w.alloc (.cells mc1 9)) 22 22 3 w.heap.size vs.length hw (rowS vs) mc1 9 Tryz.underlying22 Hsz1.out (heap_alloc_new _ _) (hO.moved (fun x hx => K2.block x (hO.lt hx) (by simp))) z1 (strs_one _)
  simp only [rowS] at cp1 hg3
  have hz3' : w3.heap.size = w.heap.size + 1 := by rw [hz3]; simp
  have K3 : Kept [] w w3 := ((K2.mono (S' := [w.heap.size]) (by simp)).trans hk3).mono (by simp)
  obtain ⟨W4, hW4⟩ : ∃ W4, W4 = (w3.alloc (.cells mc2 4)).alloc (.cells #[.slice (some ⟨w.heap.size, 0, none⟩) vs.length vs.length, .slice (some ⟨w3.heap.size, 0, none⟩) q q] 178) := ⟨_, rfl⟩
  have K4 : Kept [] w W4 := by rw [hW4]; exact (K3.alloc _).alloc _
  have hq0 : Hid (q = (marksTo l a vs 0).length) := by show _ = _; rw [marksTo_len, hq]
  have A4 : ApIs W4 (w3.heap.size + 1) vs (marksTo l a vs 0) ⟨some ⟨w.heap.size, 0, none⟩, vs.length⟩ ⟨some ⟨w3.heap.size, 0, none⟩, q⟩ := by
    refine ⟨?_, ?_, ?_, ?_, ?_, ?_⟩
    · rw [hW4, ← hq0.out]
      have := heap_alloc_new (w3.alloc (.cells mc2 4)) (.cells #[.slice (some ⟨w.heap.size, 0, none⟩) vs.length vs.length, .slice (some ⟨w3.heap.size, 0, none⟩) q q] 178)
      simpa using this
    · refine Owns.made (r := rowS vs) ?_ (strs_len _) (by simp only [rowS]; unfold maxLen; omega)
      rw [hW4]; exact (((Kept.refl [] _).alloc _).alloc _).get hg3 (by simp)
    · have e : (⟨some ⟨w3.heap.size, 0, none⟩, q⟩ : Hd) = ⟨some ⟨w3.heap.size, 0, none⟩, (rowBl (marksTo l a vs 0)).n⟩ := by rw [hq0.out]; rfl
      rw [e]
      refine Owns.made (r := rowBl (marksTo l a vs 0)) ?_ (bools_len _) (by simp only [rowBl]; rw [← hq0.out]; unfold maxLen; omega)
      rw [hW4]
      have := ((Kept.refl [] (w3.alloc (.cells mc2 4))).alloc (.cells #[.slice (some ⟨w.heap.size, 0, none⟩) vs.length vs.length, .slice (some ⟨w3.heap.size, 0, none⟩) q q] 178)).get (heap_alloc_new w3 (.cells mc2 4)) (by simp)
      rw [this, HZ2.out]; rfl
    · intro e; simp [Hd.blk] at e; omega
    · intro e; simp [Hd.blk] at e
    · right; intro e; simp [Hd.blk] at e; omega
  have HW4 := (show Hid _ from hW4.symm)
  rw [hz3'] at HW4 A4
  clear hW4 hk3 hg3 HZ2 K2 hO Hsz1 z1 hz3
  obtain ⟨hv, hhv⟩ : ∃ hv : Hd, hv = ⟨some ⟨w.heap.size, 0, none⟩, vs.length⟩ := ⟨_, rfl⟩
  obtain ⟨hm, hhm⟩ : ∃ hm : Hd, hm = ⟨some ⟨w.heap.size + 1, 0, none⟩, q⟩ := ⟨_, rfl⟩
  rw [← hhv, ← hhm] at A4
  have HB : Hid (∀ x, hv.blk = some x ∨ hm.blk = some x → w.heap.size ≤ x ∧ x ≤ w.heap.size + 1) := by
    intro x hx
    rw [hhv, hhm] at hx
    simp [Hd.blk] at hx
    omega
  clear hhv hhm
  go_enter Tryz.func85, Tryz.ntmps85
  go_upto_region 4 with fail
  rw [HW4.out]
  clear HW4 m1 m2 cp1 K3 hz3'
  go_wp2
  go_loopg [9] l.length (fun gk i wr => ∃ k : Nat, k ≤ l.length ∧ gk = l.length - k ∧ i = .int .i64 k ∧ ApIs wr (w.heap.size + 1 + 1) vs (marksTo l a vs k) hv hm ∧ Kept [] w wr)
  case atStart => exact ⟨0, by omega, by omega, rfl, A4, K4⟩
  case round =>
    obtain ⟨k, hk, hg, rfl, hA, hK⟩ := hrel
    have hr := h.still hK
    have hal := hA.lt
    clear A4 K4
    by_cases hlt : k < l.length
    · have HD := (show Hid _ from disj_eq l a k hlt)
      have hsk := ok.syms k hlt
      have hpk := ok.pos k hlt
      have SY : Hid (symsAt l k = l[k].symbols) := symsAt_eq l k hlt
      have HU : Hid (marksTo l a vs (k + 1) = if disjF l a k = true then markAllF vs.length (positionsF vs (symsAt l k)) (marksTo l a vs k) else marksTo l a vs k) := rfl
      cases hkd : (l[k].kind == 1)
      · have HT : Hid (marksTo l a vs (k + 1) = marksTo l a vs k) := by show _ = _; rw [HU.out, HD.out, hkd]; simp
        clear HD HU SY
        go_wp2_with (first | (go_at_call 45; refine (count_any b o l H _ (by exact hr)).mono ?_; rintro e wc ⟨rfl, rfl⟩) | (go_at_call 53; refine (statement_any b o k l H _ (by exact hr) hlt).mono ?_; rintro e w5 ⟨rfl, hk5⟩; unfold stVal))
        go_roundg (l.length - (k + 1))
        case measure => omega
        case rel => exact ⟨k + 1, by omega, rfl, by go_num, by rw [HT.out]; exact (hA.still hk5).still ((Kept.refl [] _).alloc _), (hK.trans hk5).alloc _⟩
      · go_wp2_with (first | (go_at_call 45; refine (count_any b o l H _ (by exact hr)).mono ?_; rintro e wc ⟨rfl, hwc⟩; rw [hwc]) | (go_at_call 53; refine (statement_any b o k l H _ (by exact hr) hlt).mono ?_; rintro e w5 ⟨rfl, hk5⟩; unfold stVal))
        obtain ⟨W6, hW6⟩ : ∃ W6, W6 = w5.alloc (.cells #[.int .i64 l[k].kind, .string l[k].label, .slice (H (10 + 2 * k)).ao l[k].symbols.length (H (10 + 2 * k)).cap, .slice (H (11 + 2 * k)).ao l[k].proof.length (H (11 + 2 * k)).cap, .string l[k].fin.file, .int .i64 l[k].fin.line, .int .i64 l[k].fin.col, .int .i64 l[k].til] 119) := ⟨_, rfl⟩
        rw [← hW6]
        have k6 : Kept [] wr W6 := by rw [hW6]; exact hk5.alloc _
        have B6 : W6.heap[w5.heap.size]? = some (.cells #[.int .i64 l[k].kind, .string l[k].label, .slice (H (10 + 2 * k)).ao l[k].symbols.length (H (10 + 2 * k)).cap, .slice (H (11 + 2 * k)).ao l[k].proof.length (H (11 + 2 * k)).cap, .string l[k].fin.file, .int .i64 l[k].fin.line, .int .i64 l[k].fin.col, .int .i64 l[k].til] 119 (0, 0)) := by rw [hW6]; exact heap_alloc_new _ _
        have q2 : W6.cell? ⟨w5.heap.size, 2, none⟩ = some (.slice (H (10 + 2 * k)).ao l[k].symbols.length (H (10 + 2 * k)).cap) := by rw [cell_of B6]; rfl
        have hr6 := hr.still k6
        have hA6 := hA.still k6
        have hK6 := hK.trans k6
        have hV6 := (hr6.sts.syms k l[k] (List.getElem?_eq_getElem hlt)).view
        clear hW6 hk5 k6 B6 hr hA hK
        cases hh : heldF l k a
        · have HT : Hid (marksTo l a vs (k + 1) = marksTo l a vs k) := by show _ = _; rw [HU.out, HD.out, hh]; simp
          clear HD HU SY
          go_wp2_with (go_at_call 80; refine (holds_any b o k a l H _ (by exact hr6) hlt).mono ?_; rintro e w7 ⟨rfl, rfl⟩)
          go_roundg (l.length - (k + 1))
          case measure => omega
          case rel => exact ⟨k + 1, by omega, rfl, by go_num, by rw [HT.out]; exact hA6, hK6⟩
        · have HT : Hid (marksTo l a vs (k + 1) = markAllF vs.length (positionsF vs l[k].symbols) (marksTo l a vs k)) := by show _ = _; rw [HU.out, HD.out, hkd, hh, SY.out]; simp
          clear HD HU SY
          go_wp2_with (first | (go_at_call 80; refine (holds_any b o k a l H _ (by exact hr6) hlt).mono ?_; rintro e w7 ⟨rfl, hw7⟩; rw [hw7]) | (go_at_call 107; refine (positions_any (w.heap.size + 1 + 1) vs (marksTo l a vs k) hv hm (H (10 + 2 * k)) l[k].symbols _ (by exact hA6) (by omega) (by exact hV6) (by omega)).mono ?_; rintro e w8 ⟨hd, rfl, hO8, hN8, hk8⟩))
          have hA8 := hA6.still hk8
          have hpl := positions_len vs l[k].symbols
          refine (markAll_any (w.heap.size + 1 + 1) vs (marksTo l a vs k) hv hm hd (positionsF vs l[k].symbols) _ hA8 (marksTo_len _ _ _ _) hvl hO8 (by omega) (fun i hi => positions_lt vs l[k].symbols i hi) (by
            intro x hx e
            have h1 := hN8 x hx
            have h2 := HB.out x (Or.inr e)
            have h3 := hA6.lt
            omega)).mono ?_
          rintro e w9 ⟨rfl, hA9, hk9⟩
          have hK9 := (hK6.trans hk8).ofP hk9 (fun x hx => (HB.out x (Or.inr hx)).1)
          go_wp2
          go_roundg (l.length - (k + 1))
          case measure => omega
          case rel => exact ⟨k + 1, by omega, rfl, by go_num, by rw [HT.out]; exact hA9, hK9⟩
    · have e : k = l.length := by omega
      subst e
      go_wp2_with (go_at_call 45; refine (count_any b o l H _ (by exact hr)).mono ?_; rintro e wc ⟨rfl, rfl⟩)
      go_ret
      exact ⟨w.heap.size + 1 + 1, hv, hm, rfl, hA, by omega, fun x hx => (HB.out x hx).1, hK⟩

end Go.Proofs.YtcipkfhpcbddiaaGreat
