/- Our texts: Rec2, Rec3, Rec4, Rec5. -/
import Derived.Test.YtkancbaldeeijaaGreatG14
/- Package frames: the looks. Lists of texts that are only read. -/
namespace Go.Proofs.YtkancbaldeeijaaGreat
open Go.RowKit

/-- A list of texts that is only read: a slice of some array. -/
def View (w : World) (h : Hd) (l : List ByteArray) : Prop :=
  l = [] ∨ ∃ g off cur t, h.ao = some ⟨g, off, none⟩ ∧ w.heap[g]? = some (.cells cur t (0, 0)) ∧ (∀ j x, l[j]? = some x → cur[off + j]? = some (.string x)) ∧ l.length ≤ h.cap ∧ h.cap ≤ 9223372036854775807
theorem Owns.view {w : World} {h : Hd} {l : List ByteArray} (o : Owns w h (rowS l)) : View w h l := by
  rcases o.ways with ⟨_, h0, _⟩ | ⟨g, cur, e1, e2, e3, e4, e5, e6⟩
  · exact Or.inl (List.eq_nil_of_length_eq_zero h0)
  · refine Or.inr ⟨g, 0, cur, _, e1, e2, ?_, e3, by unfold maxLen at e4; exact e4⟩
    intro j x hj
    have hjl : j < l.length := (List.getElem?_eq_some_iff.1 hj).1
    have e6' : cur.toList.take (l.length * 1) = strs l := e6
    have : (strs l)[j]? = some (.string x) := by simp [strs, hj]
    rw [← e6', List.getElem?_take] at this
    rw [Nat.zero_add]
    simp at this
    exact this.2
theorem View.kept {w w' : World} {h : Hd} {l : List ByteArray} {S : List Nat} (v : View w h l) (k : Kept S w w') (hS : ∀ x, h.blk = some x → x ∉ S) : View w' h l := by
  rcases v with v | ⟨g, off, cur, t, e1, e2, e3⟩
  · exact Or.inl v
  · exact Or.inr ⟨g, off, cur, t, e1, k.get e2 (hS g (by unfold Hd.blk; rw [e1]; rfl)), e3⟩
theorem View.still {w w' : World} {h : Hd} {l : List ByteArray} (v : View w h l) (k : Kept [] w w') : View w' h l := v.kept k (by simp)

theorem ret_str {a b : ByteArray} (h : a = b) : Ending.returned (.string a) = .returned (.string b) := by rw [h]

set_option maxHeartbeats 400000 in
theorem fhas_any (hd : Hd) (l : List ByteArray) (x : ByteArray) (w : World) (hv : View w hd l) (hl : l.length ≤ 1073741824) :
    Calls Tryz.prog 84 #[.slice hd.ao l.length hd.cap, .string x] w fun e w' => e = .returned (.bool (hasF l x)) ∧ w' = w := by
  obtain ⟨ao, cap⟩ := hd
  rcases hv with rfl | ⟨g, off, cur, t, e1, e2, e3, e4, e5⟩
  · clear hl
    go_enter Tryz.func84, Tryz.ntmps84
    go_wp2
    refine wp_loop_rounds 1 ?_
    rw [rounds_succ]
    go_wp2
    go_ret
    exact ⟨rfl, rfl⟩
  · simp only at e1
    subst e1
    go_enter Tryz.func84, Tryz.ntmps84
    go_wp2
    go_loopg [5] l.length (fun g i wr => ∃ k : Nat, k ≤ l.length ∧ g = l.length - k ∧ i = .int .i64 k ∧ Hid (hasF l x = hasF (l.drop k) x) ∧ wr = w)
    case atStart => exact ⟨0, by omega, by omega, rfl, rfl, rfl⟩
    case round =>
      obtain ⟨k, hk, hg, rfl, hs, rfl⟩ := hrel
      by_cases hlt : k < l.length
      · have c1 : wr.cell? ⟨g, off + k, none⟩ = some (.string l[k]) := (cell_of e2 (off + k)).trans (e3 k l[k] (List.getElem?_eq_getElem hlt))
        cases hb : ((l[k]).toList == x.toList)
        · have HM : Hid (hasF l x = hasF (l.drop (k + 1)) x) := has_miss l x k hlt hs.out hb
          clear hs e3
          go_wp2
          go_roundg (l.length - (k + 1))
          case measure => omega
          case rel => exact ⟨k + 1, by omega, rfl, by go_num, HM, rfl⟩
        · have HM : Hid (hasF l x = true) := has_hit l x k hlt hs.out hb
          clear hs e3
          go_wp2
          go_ret
          exact ⟨ret_bool HM.out.symm, rfl⟩
      · have HM : Hid (hasF l x = false) := has_over l x k hlt hs.out
        clear hs e3
        go_wp2
        go_ret
        exact ⟨ret_bool HM.out.symm, rfl⟩

/-- The first symbol; what a $f types. -/
def typecodeF (s : St) : ByteArray := s.symbols.getD 0 ⟨#[]⟩
def variableF (s : St) : ByteArray := if (s.kind == 2) = true ∧ 2 ≤ s.symbols.length then s.symbols.getD 1 ⟨#[]⟩ else ⟨#[]⟩

theorem getD_at (l : List ByteArray) (k : Nat) (h : k < l.length) : l.getD k ⟨#[]⟩ = l[k] := by rw [List.getD_eq_getElem?_getD, List.getElem?_eq_getElem h]; rfl

set_option maxHeartbeats 800000 in
theorem typecode_any (s : St) (ha hb : Hd) (w : World) (hv : View w ha s.symbols) (hl : s.symbols.length ≤ 1073741824) :
    Calls Tryz.prog 127 #[stVal s ha hb] w fun e w' => e = .returned (.string (typecodeF s)) ∧ Kept [] w w' := by
  unfold stVal
  obtain ⟨ao, cap⟩ := ha
  rcases hv with e0 | ⟨g, off, cur, t, e1, e2, e3, e4, e5⟩
  · have HT : Hid (typecodeF s = ⟨#[]⟩) := by show _ = _; unfold typecodeF; rw [e0]; rfl
    rw [e0]
    simp only [List.length_nil]
    clear hl e0
    go_enter Tryz.func127, Tryz.ntmps127
    go_wp2
    go_ret
    exact ⟨ret_str HT.out.symm, (Kept.refl _ _).alloc _⟩
  · simp only at e1
    subst e1
    by_cases hz : s.symbols.length = 0
    · have hz1 : ((s.symbols.length : Int) == 0) = true := by simp [hz]
      have HT : Hid (typecodeF s = ⟨#[]⟩) := by show _ = _; unfold typecodeF; rw [List.eq_nil_of_length_eq_zero hz]; rfl
      clear hz
      go_enter Tryz.func127, Tryz.ntmps127
      go_wp2
      go_ret
      exact ⟨ret_str HT.out.symm, (Kept.refl _ _).alloc _⟩
    · have hz1 : ((s.symbols.length : Int) == 0) = false := beq_eq_false_iff_ne.2 (by omega)
      have hz2 : 0 < s.symbols.length := by omega
      have HT : Hid (typecodeF s = s.symbols[0]) := getD_at _ _ hz2
      have c1 : w.cell? ⟨g, off, none⟩ = some (.string s.symbols[0]) := (cell_of e2 off).trans (e3 0 _ (List.getElem?_eq_getElem hz2))
      have hgw := lt_of_get e2
      clear e3 hz
      go_enter Tryz.func127, Tryz.ntmps127
      go_wp2
      go_ret
      exact ⟨ret_str HT.out.symm, (Kept.refl _ _).alloc _⟩

set_option maxHeartbeats 800000 in
theorem variable_any (s : St) (ha hb : Hd) (w : World) (hv : View w ha s.symbols) (hl : s.symbols.length ≤ 1073741824) :
    Calls Tryz.prog 85 #[stVal s ha hb] w fun e w' => e = .returned (.string (variableF s)) ∧ Kept [] w w' := by
  unfold stVal
  cases k2 : (s.kind == 2)
  · have k2' : (s.kind != 2) = true := by simp [bne, k2]
    have HT : Hid (variableF s = ⟨#[]⟩) := by show _ = _; unfold variableF; rw [k2]; simp
    go_enter Tryz.func85, Tryz.ntmps85
    go_wp2
    go_ret
    exact ⟨ret_str HT.out.symm, (Kept.refl _ _).alloc _⟩
  · have k2' : (s.kind != 2) = false := by simp [bne, k2]
    by_cases hz : s.symbols.length < 2
    · have HT : Hid (variableF s = ⟨#[]⟩) := by show _ = _; unfold variableF; rw [if_neg (by omega)]
      go_enter Tryz.func85, Tryz.ntmps85
      go_wp2
      go_ret
      exact ⟨ret_str HT.out.symm, (Kept.refl _ _).alloc _⟩
    · have hz2 : 1 < s.symbols.length := by omega
      obtain ⟨ao, cap⟩ := ha
      rcases hv with e0 | ⟨g, off, cur, t, e1, e2, e3, e4, e5⟩
      · rw [e0] at hz2; simp at hz2
      · simp only at e1
        subst e1
        have HT : Hid (variableF s = s.symbols[1]) := by show _ = _; unfold variableF; rw [if_pos ⟨k2, by omega⟩]; exact getD_at _ _ hz2
        have c1 : w.cell? ⟨g, off + 1, none⟩ = some (.string s.symbols[1]) := (cell_of e2 (off + 1)).trans (e3 1 _ (List.getElem?_eq_getElem hz2))
        have hgw := lt_of_get e2
        clear e3
        go_enter Tryz.func85, Tryz.ntmps85
        go_wp2
        go_ret
        exact ⟨ret_str HT.out.symm, (Kept.refl _ _).alloc _⟩

def mandF (s : St) (syms : List ByteArray) : Bool := if (s.kind == 2) = true then hasF syms (variableF s) else (s.kind == 3)

set_option maxHeartbeats 800000 in
theorem isMandatory_any (s : St) (ha hb hd : Hd) (l : List ByteArray) (w : World) (hv : View w ha s.symbols) (hvl : View w hd l) (hl : s.symbols.length ≤ 1073741824) (hl2 : l.length ≤ 1073741824) :
    Calls Tryz.prog 65 #[stVal s ha hb, .slice hd.ao l.length hd.cap] w fun e w' => e = .returned (.bool (mandF s l)) ∧ Kept [] w w' := by
  have VA := fun (w' : World) (hv' : View w' ha s.symbols) => variable_any s ha hb w' hv' hl
  have HVA := (show Hid _ from VA)
  unfold stVal at HVA ⊢
  clear VA
  cases k2 : (s.kind == 2)
  · have HT : Hid (mandF s l = (s.kind == 3)) := by show _ = _; unfold mandF; rw [k2]; simp
    go_enter Tryz.func65, Tryz.ntmps65
    go_wp2
    go_ret
    exact ⟨ret_bool (by rw [HT.out]), (Kept.refl _ _).alloc _⟩
  · have HT : Hid (mandF s l = hasF l (variableF s)) := by show _ = _; unfold mandF; rw [k2]; simp
    go_enter Tryz.func65, Tryz.ntmps65
    go_wp2_with fail
    refine (HVA.out _ (by exact hv.still ((Kept.refl [] _).alloc _))).mono ?_
    rintro e w2 ⟨rfl, hk2⟩
    have hk := ((Kept.refl [] w).alloc _).trans hk2
    go_wp2_with fail
    refine (fhas_any hd l _ _ (by exact hvl.still hk) hl2).mono ?_
    rintro e w3 ⟨rfl, rfl⟩
    go_wp2
    go_ret
    exact ⟨ret_bool (by rw [HT.out]), hk⟩

end Go.Proofs.YtkancbaldeeijaaGreat

/- Package frames: which symbols count, which hypotheses are mandatory. -/
namespace Go.Proofs.YtkancbaldeeijaaGreat
open Go.RowKit

/-- A record that can be read from data: each statement has a symbol; nothing is long. -/
structure RecOk (l : List St) : Prop where
  len : l.length ≤ 10000
  pos : ∀ i (h : i < l.length), 0 < l[i].symbols.length
  syms : ∀ i (h : i < l.length), l[i].symbols.length ≤ 10000
  prfs : ∀ i (h : i < l.length), l[i].proof.length ≤ 10000

theorem Kept.grown {w wr w1 : World} {b : Option Nat} (K : Kept [] w wr) (g : wr.grownBy w1 b) (hb : ∀ k, b = some k → w.heap.size ≤ k) : Kept [] w w1 :=
  ⟨g.os.trans K.os, g.tape.trans K.tape, g.output.trans K.output, Nat.le_trans K.size g.size, fun k hk _ => (g.block k (Nat.lt_of_lt_of_le hk K.size) (fun e => by have := hb k e.symm; omega)).trans (K.block k hk (by simp))⟩

theorem field_syms (w : World) (k l c u : Int) (lab f : ByteArray) (a1 a2 : Option Addr) (n1 c1 n2 c2 : Nat) :
    (Instr.field 100 (.agg #[.int .i64 k, .string lab, .slice a1 n1 c1, .slice a2 n2 c2, .string f, .int .i64 l, .int .i64 c, .int .i64 u]) 2).run Tryz.prog w = .ok (.slice a1 n1 c1) w := by kernel_rfl
attribute [local go_sem] field_syms

/-- The $e that are active at a. -/
def essF (l : List St) (a n : Nat) : Bool := match l[n]? with | some s => (s.kind == 3) && heldF l n a | none => false
theorem ess_eq (l : List St) (a n : Nat) (h : n < l.length) : essF l a n = ((l[n].kind == 3) && heldF l n a) := by
  unfold essF; rw [List.getElem?_eq_getElem h]
def symsTo (l : List St) (a k : Nat) : List ByteArray := symsAt l a ++ ((List.range k).filter (essF l a)).flatMap (symsAt l)
def symsOfF (l : List St) (a : Nat) : List ByteArray := symsTo l a l.length
theorem symsAt_eq (l : List St) (n : Nat) (h : n < l.length) : symsAt l n = l[n].symbols := by
  unfold symsAt; rw [List.getElem?_eq_getElem h]
theorem symsTo_zero (l : List St) (a : Nat) : symsTo l a 0 = symsAt l a := by unfold symsTo; rw [List.range_zero]; rw [List.filter_nil, List.flatMap_nil, List.append_nil]
theorem symsTo_yes (l : List St) (a k : Nat) (h : essF l a k = true) : symsTo l a (k + 1) = symsTo l a k ++ symsAt l k := by
  unfold symsTo; rw [List.range_succ, List.filter_append]; simp [h]
theorem symsTo_no (l : List St) (a k : Nat) (h : essF l a k = false) : symsTo l a (k + 1) = symsTo l a k := by
  unfold symsTo; rw [List.range_succ, List.filter_append]; simp [h]
theorem symsTo_len (l : List St) (a k : Nat) (ok : RecOk l) (ha : a < l.length) (hk : k ≤ l.length) : (symsTo l a k).length ≤ 10000 + k * 10000 := by
  induction k with
  | zero =>
    have := ok.syms a ha
    have e := congrArg List.length (symsTo_zero l a)
    have e2 := congrArg List.length (symsAt_eq l a ha)
    omega
  | succ k ih =>
    have := ih (by omega)
    cases h : essF l a k with
    | true =>
      have e := congrArg List.length (symsTo_yes l a k h)
      have e2 := congrArg List.length (symsAt_eq l k (by omega))
      have := ok.syms k (by omega)
      rw [List.length_append] at e
      omega
    | false =>
      have e := congrArg List.length (symsTo_no l a k h)
      omega

set_option maxHeartbeats 2000000 in
set_option maxRecDepth 100000 in
theorem symbolsOf_any (b o a : Nat) (l : List St) (H : Nat → Hd) (w : World) (h : RecAt w b o l H) (ha : a < l.length) (ok : RecOk l) :
    Calls Tryz.prog 63 #[.pointer (some ⟨b, o, none⟩), .int .i64 a] w fun e w' => ∃ hd : Hd, e = .returned (.slice hd.ao (symsOfF l a).length hd.cap) ∧ Owns w' hd (rowS (symsOfF l a)) ∧ (∀ k, hd.blk = some k → w.heap.size ≤ k) ∧ Kept [] w w' := by
  obtain ⟨i0, hi, hz0, hz1, hz2⟩ := info_parts infoS
  have hlen := ok.len
  have hbw := h.lt
  go_enter Tryz.func63, Tryz.ntmps63
  go_wp2_with fail
  refine (statement_any b o a l H _ h ha).mono ?_
  rintro e w1 ⟨rfl, hk1⟩
  have h1 := h.still hk1
  have O1 := h1.sts.syms a l[a] (List.getElem?_eq_getElem ha)
  have hp := ok.pos a ha
  have hm := ok.syms a ha
  rcases O1.ways with ⟨_, h0, _⟩ | ⟨g1, cur1, e1, -⟩
  · have : l[a].symbols.length = 0 := h0
    omega
  · unfold stVal
    rw [e1]
    have hsrc : Hid (∀ j u, (strs l[a].symbols)[j]? = some u → w1.cell? ((⟨g1, 0, none⟩ : Addr).add j) = some u) := fun j u hj => by rw [addr_add]; exact O1.cell e1 j u hj
    have ES : Hid (symsTo l a 0 = l[a].symbols) := by show _ = _; rw [symsTo_zero]; exact symsAt_eq l a ha
    have HO : Hid (Owns w1 ⟨none, 0⟩ (rowS [])) := World.ownsRow_nil _ _ _ _
    clear O1
    go_wp2_with (at_builtin; refine wpList_append_row _ rfl (.tmp 8) (.tmp 12) 22 rfl i0 (.string ⟨#[]⟩) 16 ⟨none, 0⟩ (rowS []) Tryz.underlying22 hi hz0 hz1 hz2 rfl Nat.one_pos rfl HO.out ⟨g1, 0, none⟩ l[a].symbols.length (H (10 + 2 * a)).cap (strs l[a].symbols) rfl ?c0 hsrc.out (strs_one _) hp ?c3 ?c4 ?_)
    case c0 => simp [strs, rowS]
    case c3 => simp only [rowS, List.length_nil]; unfold maxLen; omega
    case c4 => simp only [rowS, List.length_nil]; omega
    intro g cap' w2 hw2 hgr hfresh
    rw [rowS_more [] l[a].symbols, List.nil_append, ← ES.out] at hw2
    have hK2 : Kept [] w w2 := hk1.grown hgr (by simp [Hd.blk])
    have hg2 : w.heap.size ≤ g := by
      rcases hfresh with e | e
      · simp [Hd.blk] at e
      · exact Nat.le_trans hk1.size e
    have hEl : Hid ((rowS []).n + l[a].symbols.length = (symsTo l a 0).length) := by show _ = _; rw [ES.out]; simp [rowS]
    rw [hEl.out]
    clear hsrc HO hgr hfresh h1 hk1 e1 hp hm hEl ES
    go_wp2
    go_loopg [5, 6] l.length (fun gk sv i wr => ∃ (k : Nat) (hd : Hd), k ≤ l.length ∧ gk = l.length - k ∧ i = .int .i64 k ∧ sv = .slice hd.ao (symsTo l a k).length hd.cap ∧ Owns wr hd (rowS (symsTo l a k)) ∧ (∀ x, hd.blk = some x → w.heap.size ≤ x) ∧ Kept [] w wr)
    case atStart => exact ⟨0, ⟨some ⟨g, 0, none⟩, cap'⟩, by omega, by omega, rfl, rfl, hw2, by intro x hx; simp [Hd.blk] at hx; omega, hK2⟩
    case round =>
      obtain ⟨k, hd, hk, hg, rfl, rfl, hO, hN, hK⟩ := hrel
      have hr := h.still hK
      clear hw2 hK2
      by_cases hlt : k < l.length
      · have hsl := symsTo_len l a k ok ha (by omega)
        have HES := (show Hid _ from ess_eq l a k hlt)
        have hsk := ok.syms k hlt
        have hpk := ok.pos k hlt
        have OK' := hr.sts.syms k l[k] (List.getElem?_eq_getElem hlt)
        rcases OK'.ways with ⟨_, h0, _⟩ | ⟨gk', curk, ek, -⟩
        · have : l[k].symbols.length = 0 := h0
          omega
        · have SY : Hid (symsAt l k = l[k].symbols) := symsAt_eq l k hlt
          cases hkd : (l[k].kind == 3)
          · have HT : Hid (symsTo l a (k + 1) = symsTo l a k) := symsTo_no l a k (by rw [HES.out, hkd]; rfl)
            clear HES OK'
            go_wp2_with (first | (go_at_call 36; refine (count_any b o l H _ (by exact hr)).mono ?_; rintro e w3 ⟨rfl, rfl⟩) | (go_at_call 43; refine (statement_any b o k l H _ (by exact hr) hlt).mono ?_; rintro e w3 ⟨rfl, hk3⟩; unfold stVal))
            go_roundg (l.length - (k + 1))
            case measure => omega
            case rel => exact ⟨k + 1, hd, by omega, rfl, by go_num, by rw [HT.out], by rw [HT.out]; exact hO.moved (fun x hx => (hk3.trans ((Kept.refl [] _).alloc _)).block x (hO.lt hx) (by simp)), hN, (hK.trans hk3).alloc _⟩
          · go_wp2_with (first | (go_at_call 36; refine (count_any b o l H _ (by exact hr)).mono ?_; rintro e wc ⟨rfl, rfl⟩) | (go_at_call 43; refine (statement_any b o k l H _ (by exact hr) hlt).mono ?_; rintro e w3 ⟨rfl, hk3⟩; unfold stVal))
            obtain ⟨W4, hW4⟩ : ∃ W4, W4 = w3.alloc (.cells #[.int .i64 l[k].kind, .string l[k].label, .slice (some ⟨gk', 0, none⟩) l[k].symbols.length (H (10 + 2 * k)).cap, .slice (H (11 + 2 * k)).ao l[k].proof.length (H (11 + 2 * k)).cap, .string l[k].fin.file, .int .i64 l[k].fin.line, .int .i64 l[k].fin.col, .int .i64 l[k].til] 100) := ⟨_, rfl⟩
            rw [← hW4]
            have k4 : Kept [] wc W4 := by rw [hW4]; exact hk3.alloc _
            have B4 : W4.heap[w3.heap.size]? = some (.cells #[.int .i64 l[k].kind, .string l[k].label, .slice (some ⟨gk', 0, none⟩) l[k].symbols.length (H (10 + 2 * k)).cap, .slice (H (11 + 2 * k)).ao l[k].proof.length (H (11 + 2 * k)).cap, .string l[k].fin.file, .int .i64 l[k].fin.line, .int .i64 l[k].fin.col, .int .i64 l[k].til] 100 (0, 0)) := by rw [hW4]; exact heap_alloc_new _ _
            have q2 : W4.cell? ⟨w3.heap.size, 2, none⟩ = some (.slice (some ⟨gk', 0, none⟩) l[k].symbols.length (H (10 + 2 * k)).cap) := by rw [cell_of B4]; rfl
            have hr4 := hr.still k4
            have hO4 : Owns W4 hd (rowS (symsTo l a k)) := hO.moved (fun x hx => k4.block x (hO.lt hx) (by simp))
            have OK4 := hr4.sts.syms k l[k] (List.getElem?_eq_getElem hlt)
            have hK4 := hK.trans k4
            have hsrc : Hid (∀ j u, (strs l[k].symbols)[j]? = some u → W4.cell? ((⟨gk', 0, none⟩ : Addr).add j) = some u) := fun j u hj => by rw [addr_add]; exact OK4.cell ek j u hj
            clear hW4 hk3 k4 B4 hr hO OK' OK4 hK
            cases hh : heldF l k a
            · have HT : Hid (symsTo l a (k + 1) = symsTo l a k) := symsTo_no l a k (by rw [HES.out, hh]; simp)
              clear HES
              go_wp2_with (go_at_call 64; refine (holds_any b o k a l H _ (by exact hr4) hlt).mono ?_; rintro e w5 ⟨rfl, rfl⟩)
              go_roundg (l.length - (k + 1))
              case measure => omega
              case rel => exact ⟨k + 1, hd, by omega, rfl, by go_num, by rw [HT.out], by rw [HT.out]; exact hO4, hN, hK4⟩
            · have HT : Hid (symsTo l a (k + 1) = symsTo l a k ++ l[k].symbols) := by show _ = _; rw [symsTo_yes l a k (by rw [HES.out, hkd, hh]; rfl), SY.out]
              clear HES SY
              go_wp2_with (first | (go_at_call 64; refine (holds_any b o k a l H _ (by exact hr4) hlt).mono ?_; rintro e w5 ⟨rfl, rfl⟩) | (at_builtin; refine wpList_append_row _ rfl (.tmp 32) (.tmp 34) 22 rfl i0 (.string ⟨#[]⟩) 16 hd (rowS (symsTo l a k)) Tryz.underlying22 hi hz0 hz1 hz2 rfl Nat.one_pos rfl (by exact hO4) ⟨gk', 0, none⟩ l[k].symbols.length (H (10 + 2 * k)).cap (strs l[k].symbols) rfl ?d0 hsrc.out (strs_one _) hpk ?d3 ?d4 ?_))
              case d0 => simp [strs, rowS]
              case d3 => simp only [rowS]; unfold maxLen; omega
              case d4 => simp only [rowS]; omega
              intro g5 cap5 w5 hw5 hgr5 hfresh5
              rw [rowS_more (symsTo l a k) l[k].symbols, ← HT.out] at hw5
              have hK5 := hK4.grown hgr5 hN
              have hg5 : w.heap.size ≤ g5 := by
                rcases hfresh5 with e | e
                · exact hN g5 e
                · exact Nat.le_trans hK4.size e
              have hEl : Hid ((rowS (symsTo l a k)).n + l[k].symbols.length = (symsTo l a (k + 1)).length) := by show _ = _; rw [HT.out]; simp [rowS]
              rw [hEl.out]
              clear hsrc hgr5 hfresh5 q2 hO4
              go_wp2
              go_roundg (l.length - (k + 1))
              case measure => omega
              case rel => exact ⟨k + 1, ⟨some ⟨g5, 0, none⟩, cap5⟩, by omega, rfl, by go_num, rfl, hw5, by intro x hx; simp [Hd.blk] at hx; omega, hK5⟩
      · have e : k = l.length := by omega
        subst e
        go_wp2_with (go_at_call 36; refine (count_any b o l H _ (by exact hr)).mono ?_; rintro e w3 ⟨rfl, rfl⟩)
        go_ret
        exact ⟨hd, rfl, hO, hN, hK⟩

end Go.Proofs.YtkancbaldeeijaaGreat

/- Package frames: Hypotheses. -/
namespace Go.Proofs.YtkancbaldeeijaaGreat
open Go.RowKit

def mandAt (l : List St) (syms : List ByteArray) (a n : Nat) : Bool := match l[n]? with | some s => heldF l n a && mandF s syms | none => false
theorem mandAt_eq (l : List St) (syms : List ByteArray) (a n : Nat) (h : n < l.length) : mandAt l syms a n = (heldF l n a && mandF l[n] syms) := by
  unfold mandAt; rw [List.getElem?_eq_getElem h]
def hypsTo (l : List St) (a k : Nat) : List Nat := (List.range k).filter (mandAt l (symsOfF l a) a)
/-- The mandatory hypotheses of a, by their numbers. -/
def hypsF (l : List St) (a : Nat) : List Nat := hypsTo l a l.length
theorem hypsTo_yes (l : List St) (a k : Nat) (h : mandAt l (symsOfF l a) a k = true) : hypsTo l a (k + 1) = hypsTo l a k ++ [k] := by
  unfold hypsTo; rw [List.range_succ, List.filter_append]; simp [h]
theorem hypsTo_no (l : List St) (a k : Nat) (h : mandAt l (symsOfF l a) a k = false) : hypsTo l a (k + 1) = hypsTo l a k := by
  unfold hypsTo; rw [List.range_succ, List.filter_append]; simp [h]
theorem hypsTo_len (l : List St) (a k : Nat) : (hypsTo l a k).length ≤ k := by
  unfold hypsTo
  have := List.length_filter_le (mandAt l (symsOfF l a) a) (List.range k)
  simpa using this
theorem symsOf_len (l : List St) (a : Nat) (ok : RecOk l) (ha : a < l.length) : (symsOfF l a).length ≤ 1073741824 := by
  have h1 := symsTo_len l a l.length ok ha (Nat.le_refl _)
  have h2 := ok.len
  have h3 : l.length * 10000 ≤ 10000 * 10000 := Nat.mul_le_mul_right _ h2
  unfold symsOfF
  omega

set_option maxHeartbeats 2000000 in
set_option maxRecDepth 100000 in
theorem hypotheses_any (b o a : Nat) (l : List St) (H : Nat → Hd) (w : World) (h : RecAt w b o l H) (ha : a < l.length) (ok : RecOk l) :
    Calls Tryz.prog 53 #[.pointer (some ⟨b, o, none⟩), .int .i64 a] w fun e w' => ∃ hd : Hd, e = .returned (.slice hd.ao (hypsF l a).length hd.cap) ∧ Owns w' hd (rowN (hypsF l a)) ∧ (∀ k, hd.blk = some k → w.heap.size ≤ k) ∧ Kept [] w w' := by
  obtain ⟨i0, hi, hz0, hz1, hz2⟩ := info_parts infoN
  have hlen := ok.len
  have hbw := h.lt
  have hsyl := symsOf_len l a ok ha
  go_enter Tryz.func53, Tryz.ntmps53
  go_wp2_with fail
  refine (symbolsOf_any b o a l H _ h ha ok).mono ?_
  rintro e w1 ⟨hy, rfl, hOy, hNy, hk1⟩
  go_wp2
  go_loopg [5, 7] l.length (fun gk sv i wr => ∃ (k : Nat) (hd : Hd), k ≤ l.length ∧ gk = l.length - k ∧ i = .int .i64 k ∧ sv = .slice hd.ao (hypsTo l a k).length hd.cap ∧ Owns wr hd (rowN (hypsTo l a k)) ∧ (∀ x, hd.blk = some x → w1.heap.size ≤ x) ∧ Kept [] w1 wr)
  case atStart => exact ⟨0, ⟨none, 0⟩, by omega, by omega, rfl, rfl, World.ownsRow_nil _ _ _ _, by intro x hx; simp [Hd.blk] at hx, Kept.refl _ _⟩
  case round =>
    obtain ⟨k, hd, hk, hg, rfl, rfl, hO, hN, hK⟩ := hrel
    have hr := (h.still hk1).still hK
    have hVy : View wr hy (symsOfF l a) := (hOy.view).still hK
    have hhl := hypsTo_len l a k
    by_cases hlt : k < l.length
    · have HM := (show Hid _ from mandAt_eq l (symsOfF l a) a k hlt)
      have hsk := ok.syms k hlt
      have hVk := (hr.sts.syms k l[k] (List.getElem?_eq_getElem hlt)).view
      cases hh : heldF l k a
      · have HT : Hid (hypsTo l a (k + 1) = hypsTo l a k) := hypsTo_no l a k (by rw [HM.out, hh]; rfl)
        clear HM hVk hVy
        go_wp2_with (first | (go_at_call 36; refine (count_any b o l H _ (by exact hr)).mono ?_; rintro e wc ⟨rfl, rfl⟩) | (go_at_call 64; refine (holds_any b o k a l H _ (by exact hr) hlt).mono ?_; rintro e wd ⟨rfl, rfl⟩))
        go_roundg (l.length - (k + 1))
        case measure => omega
        case rel => exact ⟨k + 1, hd, by omega, rfl, by go_num, by rw [HT.out], by rw [HT.out]; exact hO, hN, hK⟩
      · have ME := fun (w' : World) (v1 : View w' (H (10 + 2 * k)) l[k].symbols) (v2 : View w' hy (symsOfF l a)) => isMandatory_any l[k] (H (10 + 2 * k)) (H (11 + 2 * k)) hy (symsOfF l a) w' v1 v2 (by omega) hsyl
        have HME := (show Hid _ from ME)
        clear ME
        cases hm : mandF l[k] (symsOfF l a)
        · have HT : Hid (hypsTo l a (k + 1) = hypsTo l a k) := hypsTo_no l a k (by rw [HM.out, hm]; simp)
          rw [hm] at HME
          clear HM
          go_wp2_with (first | (go_at_call 36; refine (count_any b o l H _ (by exact hr)).mono ?_; rintro e wc ⟨rfl, rfl⟩) | (go_at_call 64; refine (holds_any b o k a l H _ (by exact hr) hlt).mono ?_; rintro e wd ⟨rfl, rfl⟩) | (go_at_call 43; refine (statement_any b o k l H _ (by exact hr) hlt).mono ?_; rintro e w3 ⟨rfl, hk3⟩) | (go_at_call 65; refine (HME.out _ (by exact hVk.still hk3) (by exact hVy.still hk3)).mono ?_; rintro e w4 ⟨rfl, hk4⟩))
          go_roundg (l.length - (k + 1))
          case measure => omega
          case rel => exact ⟨k + 1, hd, by omega, rfl, by go_num, by rw [HT.out], by rw [HT.out]; exact hO.moved (fun x hx => (hk3.trans hk4).block x (hO.lt hx) (by simp)), hN, (hK.trans hk3).trans hk4⟩
        · have HT : Hid (hypsTo l a (k + 1) = hypsTo l a k ++ [k]) := hypsTo_yes l a k (by rw [HM.out, hh, hm]; rfl)
          rw [hm] at HME
          clear HM
          go_wp2_with (first | (go_at_call 36; refine (count_any b o l H _ (by exact hr)).mono ?_; rintro e wc ⟨rfl, rfl⟩) | (go_at_call 64; refine (holds_any b o k a l H _ (by exact hr) hlt).mono ?_; rintro e wd ⟨rfl, rfl⟩) | (go_at_call 43; refine (statement_any b o k l H _ (by exact hr) hlt).mono ?_; rintro e w3 ⟨rfl, hk3⟩) | (go_at_call 65; refine (HME.out _ (by exact hVk.still hk3) (by exact hVy.still hk3)).mono ?_; rintro e w4 ⟨rfl, hk4⟩; have hO4 := hO.moved (fun x hx => ((hk3.trans hk4).alloc (.cells #[.int .i64 k] 3)).block x (hO.lt hx) (by simp))) | (at_builtin; refine wpList_append_row _ rfl (.tmp 28) (.tmp 30) 35 rfl i0 (.int .i64 0) 8 hd (rowN (hypsTo l a k)) Tryz.underlying35 hi hz0 hz1 hz2 rfl Nat.one_pos rfl (by exact hO4) ⟨_, 0, none⟩ 1 1 [.int .i64 k] rfl rfl ?d1 ?d2 Nat.one_pos ?d3 ?d4 ?_))
          case d1 => intro j u hj; match j, hj with | 0, hj => simp at hj; subst hj; simp [Addr.add]
          case d2 => intro u hu; simp at hu; subst hu; rfl
          case d3 => simp only [rowN]; unfold maxLen; omega
          case d4 => simp only [rowN]; omega
          intro g5 cap5 w5 hw5 hgr5 hfresh5
          rw [rowN_snoc (hypsTo l a k) k, ← HT.out] at hw5
          have hK4 := ((hK.trans hk3).trans hk4).alloc (.cells #[.int .i64 k] 3)
          have hK5 := hK4.grown hgr5 hN
          have hg5 : w1.heap.size ≤ g5 := by
            rcases hfresh5 with e | e
            · exact hN g5 e
            · have := hK4.size; simp at e this; omega
          have hEl : Hid ((rowN (hypsTo l a k)).n + 1 = (hypsTo l a (k + 1)).length) := by show _ = _; rw [HT.out]; simp [rowN]
          rw [hEl.out]
          clear hgr5 hfresh5 hO4
          go_wp2
          go_roundg (l.length - (k + 1))
          case measure => omega
          case rel => exact ⟨k + 1, ⟨some ⟨g5, 0, none⟩, cap5⟩, by omega, rfl, by go_num, rfl, hw5, by intro x hx; simp [Hd.blk] at hx; omega, hK5⟩
    · have e : k = l.length := by omega
      subst e
      have hK' := hk1.trans hK
      have hs1 := hk1.size
      go_wp2_with (go_at_call 36; refine (count_any b o l H _ (by exact hr)).mono ?_; rintro e w3 ⟨rfl, rfl⟩)
      go_ret
      exact ⟨hd, rfl, hO, fun x hx => Nat.le_trans hs1 (hN x hx), hK'⟩

end Go.Proofs.YtkancbaldeeijaaGreat

/- Package frames: AllHypotheses. -/
namespace Go.Proofs.YtkancbaldeeijaaGreat
open Go.RowKit

theorem infoL : (Tryz.prog.info? 35).map (fun i => (i.zero, i.size, i.bytes)) = some (some (.slice none 0 0), 1, 24) := by kernel_rfl
theorem made_at (v : Value) (n i : Nat) (h : i < n) : (madeCells #[v] n)[i]? = some v := by
  simp [madeCells, h, Nat.mod_one]

def isAt (l : List St) (n : Nat) : Bool := match l[n]? with | some s => isA s.kind | none => false
theorem isAt_eq (l : List St) (n : Nat) (h : n < l.length) : isAt l n = isA l[n].kind := by
  unfold isAt; rw [List.getElem?_eq_getElem h]
/-- The mandatory hypotheses of each assertion below k; of the others none. -/
def hypsA (l : List St) (k n : Nat) : List Nat := if n < k ∧ isAt l n = true then hypsF l n else []
structure AllIs (w : World) (g : Nat) (l : List St) (k : Nat) (K : Nat → Hd) : Prop where
  arr : ∃ arr, w.heap[g]? = some (.cells arr 35 (0, 0)) ∧ arr.size = l.length ∧ ∀ n, n < l.length → arr[n]? = some (.slice (K n).ao (hypsA l k n).length (K n).cap)
  own : ∀ n, n < l.length → Owns w (K n) (rowN (hypsA l k n))
  off : ∀ n, (K n).blk ≠ some g
theorem AllIs.kept {w w' : World} {g : Nat} {l : List St} {k : Nat} {K : Nat → Hd} {S : List Nat} (h : AllIs w g l k K) (q : Kept S w w') (hg : g ∉ S) (hK : ∀ n x, (K n).blk = some x → x ∉ S) : AllIs w' g l k K := by
  obtain ⟨arr, h1, h2, h3⟩ := h.arr
  exact ⟨⟨arr, q.get h1 hg, h2, h3⟩, fun n hn => (h.own n hn).moved (fun x hx => q.block x ((h.own n hn).lt hx) (hK n x hx)), h.off⟩
theorem AllIs.still {w w' : World} {g : Nat} {l : List St} {k : Nat} {K : Nat → Hd} (h : AllIs w g l k K) (q : Kept [] w w') : AllIs w' g l k K := h.kept q (by simp) (by simp)
theorem AllIs.cell {w : World} {g : Nat} {l : List St} {k : Nat} {K : Nat → Hd} (h : AllIs w g l k K) (n : Nat) (hn : n < l.length) : w.cell? ⟨g, n, none⟩ = some (.slice (K n).ao (hypsA l k n).length (K n).cap) := by
  obtain ⟨arr, h1, h2, h3⟩ := h.arr
  rw [cell_of h1]; exact h3 n hn
theorem AllIs.free {w : World} {g : Nat} {l : List St} {k : Nat} {K : Nat → Hd} (h : AllIs w g l k K) (n : Nat) : w.frozen? ⟨g, n, none⟩ = false := by
  obtain ⟨arr, h1, h2, h3⟩ := h.arr
  exact free_of h1 n
theorem AllIs.lt {w : World} {g : Nat} {l : List St} {k : Nat} {K : Nat → Hd} (h : AllIs w g l k K) : g < w.heap.size := by
  obtain ⟨arr, h1, h2, h3⟩ := h.arr
  exact lt_of_get h1
theorem AllIs.skip {w : World} {g : Nat} {l : List St} {k : Nat} {K : Nat → Hd} (h : AllIs w g l k K) (hk : isAt l k = false) : AllIs w g l (k + 1) K := by
  have e : ∀ n, hypsA l (k + 1) n = hypsA l k n := by
    intro n
    unfold hypsA
    by_cases en : n = k
    · subst en; rw [if_neg (by rw [hk]; simp), if_neg (by rw [hk]; simp)]
    · have : (n < k + 1 ∧ isAt l n = true) ↔ (n < k ∧ isAt l n = true) := and_congr_left (fun _ => by omega)
      simp only [this]
  obtain ⟨arr, h1, h2, h3⟩ := h.arr
  exact ⟨⟨arr, h1, h2, fun n hn => by rw [e]; exact h3 n hn⟩, fun n hn => by rw [e]; exact h.own n hn, h.off⟩
theorem AllIs.store {w : World} {g : Nat} {l : List St} {k : Nat} {K : Nat → Hd} (h : AllIs w g l k K) (hk : isAt l k = true) (hkl : k < l.length) (hd : Hd) (o : Owns w hd (rowN (hypsF l k))) (hg : hd.blk ≠ some g) :
    AllIs (w.setCell ⟨g, k, none⟩ (.slice hd.ao (hypsF l k).length hd.cap)) g l (k + 1) (upd K k hd) := by
  have e : ∀ n, n ≠ k → hypsA l (k + 1) n = hypsA l k n := by
    intro n en
    unfold hypsA
    have : (n < k + 1 ∧ isAt l n = true) ↔ (n < k ∧ isAt l n = true) := and_congr_left (fun _ => by omega)
    simp only [this]
  have ek : hypsA l (k + 1) k = hypsF l k := by unfold hypsA; rw [if_pos ⟨by omega, hk⟩]
  obtain ⟨arr, h1, h2, h3⟩ := h.arr
  refine ⟨⟨_, block_setCell h1 _ _, by simpa using h2, ?_⟩, ?_, ?_⟩
  · intro n hn
    by_cases en : n = k
    · subst en
      rw [upd_same, ek]
      simp [h2, hn]
    · rw [upd_other _ _ _ _ en, e n en]
      rw [Array.getElem?_setIfInBounds_ne (by omega)]
      exact h3 n hn
  · intro n hn
    by_cases en : n = k
    · subst en
      rw [upd_same, ek]
      exact o.moved (fun x hx => Below.heap_setCell _ _ _ _ (by rintro rfl; exact hg hx))
    · rw [upd_other _ _ _ _ en, e n en]
      exact (h.own n hn).moved (fun x hx => Below.heap_setCell _ _ _ _ (by rintro rfl; exact h.off n hx))
  · intro n
    by_cases en : n = k
    · subst en; rw [upd_same]; exact hg
    · rw [upd_other _ _ _ _ en]; exact h.off n

set_option maxHeartbeats 2000000 in
set_option maxRecDepth 100000 in
theorem allHypotheses_any (b o : Nat) (l : List St) (H : Nat → Hd) (w : World) (h : RecAt w b o l H) (ok : RecOk l) :
    Calls Tryz.prog 42 #[.pointer (some ⟨b, o, none⟩)] w fun e w' => ∃ (g : Nat) (K : Nat → Hd), e = .returned (.slice (some ⟨g, 0, none⟩) l.length l.length) ∧ AllIs w' g l l.length K ∧ w.heap.size ≤ g ∧ (∀ n x, (K n).blk = some x → w.heap.size ≤ x) ∧ Kept [] w w' := by
  obtain ⟨i0, hi, hz0, hz1, hz2⟩ := info_parts infoL
  have hlen := ok.len
  have hbw := h.lt
  have m1 := fun w => run_make_row (P := Tryz.prog) w 97 35 i0 _ Tryz.underlying97 hi hz0 l.length 1 hz1 (by rw [hz2]; omega) (by omega)
  obtain ⟨mc, hmc⟩ : ∃ mc, mc = madeCells (Value.slice none 0 0).cells (l.length * 1) := ⟨_, rfl⟩
  rw [← hmc] at m1
  have A0 : Hid (AllIs (w.alloc (.cells mc 35)) w.heap.size l 0 noHd) := by
    refine ⟨⟨mc, heap_alloc_new _ _, by rw [hmc, size_madeCells]; omega, ?_⟩, ?_, fun n e => by simp [noHd, Hd.blk] at e⟩
    · intro n hn
      have e : hypsA l 0 n = [] := by unfold hypsA; rw [if_neg (by omega)]
      rw [e, hmc]
      exact made_at _ _ _ (by omega)
    · intro n hn
      have e : hypsA l 0 n = [] := by unfold hypsA; rw [if_neg (by omega)]
      rw [e]; exact World.ownsRow_nil _ _ _ _
  clear hmc
  go_enter Tryz.func42, Tryz.ntmps42
  go_wp2_with (go_at_call 36; refine (count_any b o l H _ (by exact h)).mono ?_; rintro e wc ⟨rfl, hwc⟩; rw [hwc])
  go_loopg [4] l.length (fun gk i wr => ∃ (k : Nat) (K : Nat → Hd), k ≤ l.length ∧ gk = l.length - k ∧ i = .int .i64 k ∧ AllIs wr w.heap.size l k K ∧ (∀ n x, (K n).blk = some x → w.heap.size ≤ x) ∧ Kept [] w wr)
  case atStart => exact ⟨0, noHd, by omega, by omega, rfl, A0.out, fun n x hx => by simp [noHd, Hd.blk] at hx, (Kept.refl _ _).alloc _⟩
  case round =>
    obtain ⟨k, K, hk, hg, rfl, hA, hN, hK⟩ := hrel
    have hr := h.still hK
    clear A0 m1
    by_cases hlt : k < l.length
    · have HI := (show Hid _ from isAt_eq l k hlt)
      cases ha : isA l[k].kind
      · have HS : Hid (AllIs wr w.heap.size l (k + 1) K) := hA.skip (by rw [HI.out, ha])
        clear HI
        go_wp2_with (first | (go_at_call 43; refine (statement_any b o k l H _ (by exact hr) hlt).mono ?_; rintro e w3 ⟨rfl, hk3⟩; unfold stVal) | (go_at_call 52; refine (isAssertion_any l[k].kind _ _ _ _ _ _ _ _).mono ?_; rintro e w4 ⟨rfl, hk4⟩))
        go_roundg (l.length - (k + 1))
        case measure => omega
        case rel => exact ⟨k + 1, K, by omega, rfl, by go_num, (HS.out.still hk3).still hk4, hN, (hK.trans hk3).trans hk4⟩
      · go_wp2_with (first | (go_at_call 43; refine (statement_any b o k l H _ (by exact hr) hlt).mono ?_; rintro e w3 ⟨rfl, hk3⟩; unfold stVal) | (go_at_call 52; refine (isAssertion_any l[k].kind _ _ _ _ _ _ _ _).mono ?_; rintro e w4 ⟨rfl, hk4⟩))
        have hk34 := hk3.trans hk4
        refine (hypotheses_any b o k l H _ (hr.still hk34) hlt ok).mono ?_
        rintro e w5 ⟨hd, rfl, hO5, hN5, hk5⟩
        have hA5 := (hA.still hk34).still hk5
        have hgl := (hA.still hk34).lt
        have hng : hd.blk ≠ some w.heap.size := fun e => by have := hN5 _ e; omega
        have HS := (show Hid _ from hA5.store (by rw [HI.out, ha]) hlt hd hO5 hng)
        have hK5 := (hK.trans hk34).trans hk5
        have hs3 := (hK.trans hk34).size
        have HN' : Hid (∀ n x, (upd K k hd n).blk = some x → w.heap.size ≤ x) := by
          intro n x hx
          by_cases e : n = k
          · subst e; rw [upd_same] at hx; have := hN5 x hx; omega
          · rw [upd_other _ _ _ _ e] at hx; exact hN n x hx
        have c1 := hA5.cell k hlt
        have hf := hA5.free
        clear hN5 hO5
        go_wp2
        go_roundg (l.length - (k + 1))
        case measure => omega
        case rel => exact ⟨k + 1, upd K k hd, by omega, rfl, by go_num, HS.out, HN'.out, hK5.setCell (Or.inr (Nat.le_refl _)) _⟩
    · have e : k = l.length := by omega
      subst e
      go_wp2
      go_ret
      exact ⟨w.heap.size, K, rfl, hA, Nat.le_refl _, hN, hK⟩

end Go.Proofs.YtkancbaldeeijaaGreat
