/- Our texts: Pl1, Pl2. -/
import Derived.BigQuiet
import Derived.Maps.AppendAt
import Derived.Test.YtkancbaldeeijaaGreatG20
/- Package player: expressions, a substitution; equal, find. -/
namespace Go.Proofs.YtkancbaldeeijaaGreat
open Go.RowKit

theorem infoLS : (Tryz.prog.info? 22).map (fun i => (i.zero, i.size, i.bytes)) = some (some (.slice none 0 0), 1, 24) := by kernel_rfl

/-- An expression and where it lies. -/
structure Ex where
  hd : Hd
  xs : List ByteArray
def exV (e : Ex) : Value := .slice e.hd.ao e.xs.length e.hd.cap
def exsV (l : List Ex) : List Value := l.map exV
def rowE (l : List Ex) : Row := ⟨22, 1, l.length, exsV l⟩
theorem rowE_snoc (l : List Ex) (e : Ex) : (⟨(rowE l).e, (rowE l).size, (rowE l).n + 1, (rowE l).xs ++ [exV e]⟩ : Row) = rowE (l ++ [e]) := by simp [rowE, exsV]
theorem exsV_at (l : List Ex) (k : Nat) (h : k < l.length) : (exsV l)[k]? = some (exV l[k]) := by simp [exsV, h]

theorem View.keptP {w w' : World} {h : Hd} {l : List ByteArray} {P : Nat → Prop} (v : View w h l) (k : KeptP P w w') (hS : ∀ x, h.blk = some x → ¬ P x) : View w' h l := by
  rcases v with v | ⟨g, off, cur, t, e1, e2, e3⟩
  · exact Or.inl v
  · exact Or.inr ⟨g, off, cur, t, e1, k.get e2 (hS g (by unfold Hd.blk; rw [e1]; rfl)), e3⟩

/-- An expression that no write to the bag of b turns. -/
structure ExOk (w : World) (b : Nat) (H : Nat → Hd) (e : Ex) : Prop where
  view : View w e.hd e.xs
  adr : ∃ ad, e.hd.ao = some ad
  far : ∀ x, e.hd.blk = some x → x < w.heap.size ∧ x ≠ b ∧ ¬ InH H x
theorem ExOk.turned {w w' : World} {b : Nat} {H H' : Nat → Hd} {e : Ex} (h : ExOk w b H e) (t : Turned b w H w' H') : ExOk w' b H' e := by
  refine ⟨h.view.keptP t.1 (fun x hx => ?_), h.adr, fun x hx => ?_⟩
  · obtain ⟨_, h2, h3⟩ := h.far x hx
    rintro (e | e)
    · exact h2 e
    · exact h3 e
  · obtain ⟨h1, h2, h3⟩ := h.far x hx
    exact ⟨Nat.lt_of_lt_of_le h1 t.1.size, h2, t.fresh x h1 h3⟩
theorem ExOk.still {w w' : World} {b : Nat} {H : Nat → Hd} {e : Ex} (h : ExOk w b H e) (k : Kept [] w w') : ExOk w' b H e :=
  ⟨h.view.still k, h.adr, fun x hx => ⟨Nat.lt_of_lt_of_le (h.far x hx).1 k.size, (h.far x hx).2⟩⟩

def rowSub (vs : List ByteArray) (be : List Ex) : Nat → Row
  | 0 => rowS vs
  | 1 => rowE be
  | _ + 2 => rowS []
def subList (vs : List ByteArray) (be : List Ex) (H : Nat → Hd) : List Value := [.slice (H 0).ao vs.length (H 0).cap, .slice (H 1).ao be.length (H 1).cap]
structure SubIs (w : World) (b : Nat) (vs : List ByteArray) (be : List Ex) (H : Nat → Hd) : Prop where
  bag : BagIs w b 176 (subList vs be H) (rowSub vs be) H
  len : be.length = vs.length
  exs : ∀ e ∈ be, ExOk w b H e
theorem SubIs.still {w w' : World} {b : Nat} {vs : List ByteArray} {be : List Ex} {H : Nat → Hd} (h : SubIs w b vs be H) (k : Kept [] w w') : SubIs w' b vs be H := ⟨h.bag.still k, h.len, fun e he => (h.exs e he).still k⟩
theorem SubIs.cells {w : World} {b : Nat} {vs : List ByteArray} {be : List Ex} {H : Nat → Hd} (h : SubIs w b vs be H) :
    w.cell? ⟨b, 0, none⟩ = some (.slice (H 0).ao vs.length (H 0).cap) ∧ w.cell? ⟨b, 1, none⟩ = some (.slice (H 1).ao be.length (H 1).cap) := ⟨h.bag.cell 0, h.bag.cell 1⟩

/-- Whether two lists have the same texts. -/
def eqL (a b : List ByteArray) : Bool := a.map (·.toList) == b.map (·.toList)
theorem eqL_len {a b : List ByteArray} (h : a.length ≠ b.length) : eqL a b = false := by
  unfold eqL; rw [beq_eq_false_iff_ne]; intro e; have := congrArg List.length e; simp at this; exact h this
theorem eqL_no {a b : List ByteArray} (k : Nat) (h1 : k < a.length) (h2 : k < b.length) (h : (a[k].toList == b[k].toList) = false) : eqL a b = false := by
  unfold eqL; rw [beq_eq_false_iff_ne] at h ⊢; intro e
  have := congrArg (fun l => l[k]?) e
  simp [h1, h2] at this
  exact h this
theorem eqL_yes {a b : List ByteArray} (hl : a.length = b.length) (h : ∀ k (h1 : k < a.length) (h2 : k < b.length), (a[k].toList == b[k].toList) = true) : eqL a b = true := by
  unfold eqL; rw [beq_iff_eq]
  apply List.ext_getElem
  · simpa using hl
  · intro k h1 h2
    simp at h1 h2 ⊢
    exact beq_iff_eq.1 (h k h1 h2)

set_option maxHeartbeats 800000 in
theorem equal_any (h1 h2 : Hd) (a b : List ByteArray) (w : World) (v1 : View w h1 a) (v2 : View w h2 b) (hl1 : a.length ≤ 1073741824) (hl2 : b.length ≤ 1073741824) :
    Calls Tryz.prog 71 #[.slice h1.ao a.length h1.cap, .slice h2.ao b.length h2.cap] w fun e w' => e = .returned (.bool (eqL a b)) ∧ Kept [] w w' := by
  obtain ⟨ao1, cap1⟩ := h1
  obtain ⟨ao2, cap2⟩ := h2
  by_cases hl : a.length = b.length
  · have hn : ((a.length : Int) != b.length) = false := by simp [hl]
    by_cases h0 : a.length = 0
    · have HM : Hid (eqL a b = true) := eqL_yes hl (fun k h1 h2 => by omega)
      have ha0 : ¬ (0 : Int) < a.length := by omega
      go_enter Tryz.func71, Tryz.ntmps71
      go_wp2
      refine wp_loop_rounds 1 ?_
      rw [rounds_succ]
      go_wp2
      go_ret
      exact ⟨ret_bool HM.out.symm, Kept.refl _ _⟩
    · rcases v1 with rfl | ⟨g, off, cur, t, e1, e2, e3, e4, e5⟩
      · simp at h0
      rcases v2 with rfl | ⟨g', off', cur', t', f1, f2, f3, f4, f5⟩
      · simp at hl; simp [hl] at h0
      simp only at e1 f1 e4 e5 f4 f5
      subst e1
      subst f1
      go_enter Tryz.func71, Tryz.ntmps71
      go_wp2
      go_loopg [5] a.length (fun gk i wr => ∃ k : Nat, k ≤ a.length ∧ gk = a.length - k ∧ i = .int .i64 k ∧ Hid (∀ i (q1 : i < a.length) (q2 : i < b.length), i < k → (a[i].toList == b[i].toList) = true) ∧ Kept [] w wr)
      case atStart => exact ⟨0, by omega, by omega, rfl, fun i _ _ hi => by omega, Kept.refl _ _⟩
      case round =>
        obtain ⟨k, hk, hg, rfl, hall, hK⟩ := hrel
        by_cases hlt : k < a.length
        · have hlt2 : k < b.length := by omega
          have c1 : wr.cell? ⟨g, off + k, none⟩ = some (.string a[k]) := (cell_of (hK.get e2 (by simp)) (off + k)).trans (e3 k a[k] (List.getElem?_eq_getElem hlt))
          have c2 : wr.cell? ⟨g', off' + k, none⟩ = some (.string b[k]) := (cell_of (hK.get f2 (by simp)) (off' + k)).trans (f3 k b[k] (List.getElem?_eq_getElem hlt2))
          have hli : (k : Int) < a.length := by omega
          have hli2 : (k : Int) < b.length := by omega
          have HNO := (show Hid _ from eqL_no k hlt hlt2)
          have HYE : Hid ((a[k].toList == b[k].toList) = true → ∀ i (q1 : i < a.length) (q2 : i < b.length), i < k + 1 → (a[i].toList == b[i].toList) = true) := by
            intro hh i q1 q2 hi
            by_cases e : i = k
            · subst e; exact hh
            · exact hall.out i q1 q2 (by omega)
          clear hall e3 f3 e2 f2
          cases hb : (a[k].toList == b[k].toList)
          · have HM := (show Hid _ from HNO.out hb)
            have hb' : (a[k].toList != b[k].toList) = true := by simp [bne, hb]
            clear HNO HYE hl
            go_upto_region 6 with fail
            go_quiet (fail)
            go_wp2
            go_ret
            exact ⟨ret_bool HM.out.symm, hK.drewN _⟩
          · have HM := (show Hid _ from HYE.out hb)
            have hb' : (a[k].toList != b[k].toList) = false := by simp [bne, hb]
            clear HNO HYE hl
            go_upto_region 6 with fail
            go_quiet (fail)
            go_wp2
            go_roundg (a.length - (k + 1))
            case measure => omega
            case rel => exact ⟨k + 1, by omega, rfl, by go_num, HM.out, hK.drewN _⟩
        · have HM : Hid (eqL a b = true) := eqL_yes hl (fun i q1 q2 => hall.out i q1 q2 (by omega))
          clear hall e3 f3
          go_wp2
          go_ret
          exact ⟨ret_bool HM.out.symm, hK⟩
  · have HM : Hid (eqL a b = false) := eqL_len hl
    have hn : ((a.length : Int) != b.length) = true := by simp [bne]; omega
    go_enter Tryz.func71, Tryz.ntmps71
    go_wp2
    go_ret
    exact ⟨ret_bool HM.out.symm, Kept.refl _ _⟩

set_option maxHeartbeats 800000 in
theorem sfind_any (b : Nat) (vs : List ByteArray) (be : List Ex) (H : Nat → Hd) (x : ByteArray) (w : World) (h : SubIs w b vs be H) (hl : vs.length ≤ 1073741824) :
    Calls Tryz.prog 131 #[.pointer (some ⟨b, 0, none⟩), .string x] w fun e w' => e = .returned (.int .i64 (optV (posF vs x))) ∧ w' = w := by
  obtain ⟨c0, c1⟩ := h.cells
  have hle := h.len
  have hOV : Owns w (H 0) (rowS vs) := h.bag.own 0
  rw [hle] at c1
  go_enter Tryz.func131, Tryz.ntmps131
  go_wp2
  go_loopg [5] vs.length (fun g i wr => ∃ k : Nat, k ≤ vs.length ∧ g = vs.length - k ∧ i = .int .i64 k ∧ Hid (∀ i, i < k → ((vs.getD i ⟨#[]⟩).toList == x.toList) = false) ∧ wr = w)
  case atStart => exact ⟨0, by omega, by omega, rfl, fun i hi => by omega, rfl⟩
  case round =>
    obtain ⟨k, hk, hg, rfl, hall, rfl⟩ := hrel
    by_cases hlt : k < vs.length
    · rcases hOV.ways with ⟨_, h0, _⟩ | ⟨g, cur, e1, -, e3, -⟩
      · have : vs.length = 0 := h0
        omega
      · have c2 := hOV.cell e1 k (.string vs[k]) (strs_at vs k hlt)
        rw [e1] at c0
        have HG := (show Hid _ from getD_at vs k hlt)
        have hcp : vs.length ≤ (H 0).cap := e3
        generalize vs[k] = y at *
        cases hb : (y.toList == x.toList)
        · have HN : Hid (∀ i, i < k + 1 → ((vs.getD i ⟨#[]⟩).toList == x.toList) = false) := by
            intro i hi
            by_cases e : i = k
            · subst e; rw [HG.out]; exact hb
            · exact hall.out i (by omega)
          clear HG h hOV
          go_wp2
          go_roundg (vs.length - (k + 1))
          case measure => omega
          case rel => exact ⟨k + 1, by omega, rfl, by go_num, HN, rfl⟩
        · have HF : Hid (posF vs x = some k) := range_hit hlt (by rw [HG.out]; exact hb) hall.out
          clear HG h hOV
          go_wp2
          go_ret
          exact ⟨ret_int (by rw [HF.out]; rfl), rfl⟩
    · have HF : Hid (posF vs x = none) := range_none (fun i hi => hall.out i (by omega))
      clear h hOV
      go_wp2
      go_ret
      exact ⟨ret_int (by rw [HF.out]; rfl), rfl⟩

end Go.Proofs.YtkancbaldeeijaaGreat

/- Package player: replace. -/
namespace Go.Proofs.YtkancbaldeeijaaGreat
open Go.RowKit

/-- APPEND of any number of elements, none too. -/
theorem wpList_append_any {P : Program} (w : World) {ops : Array Oper} {rest : List Oper} {o : Oper} {a : Act} {Q : Exit → Act → World → Prop}
    (hg : o.guard = none) (s x : Operand) (t : TypeId) (hop : o.op = Op.call { callee := Callee.builtin Builtin.append, args := #[s, x], argTypes := #[t, t] })
    (i : TypeInfo) (z : Value) (bytes : Nat) (h : Hd) (r : Row) (h1 : P.underlying t = some (.slice r.e)) (h2 : P.info? r.e = some i) (h3 : i.zero = some z) (h4 : i.size = r.size) (h5 : i.bytes = bytes) (h6 : z.cells.size = r.size) (h7 : 0 < r.size)
    (hs : a.eval s = .slice h.ao r.n h.cap) (hown : Owns w h r)
    (ad : Addr) (m c : Nat) (news : List Value) (hx : a.eval x = .slice (some ad) m c) (hn : news.length = m * r.size) (hc : ∀ j u, news[j]? = some u → w.cell? (ad.add j) = some u) (h1c : ∀ u ∈ news, u.oneCell' = true)
    (b1 : r.n + m ≤ maxLen) (b2 : (r.n + m) * bytes ≤ 140737488355328)
    (hK : ∀ hd' w', Owns w' hd' ⟨r.e, r.size, r.n + m, r.xs ++ news⟩ → w.grownBy w' h.blk → (hd'.blk = h.blk ∨ hd'.blk = some w.heap.size) → wpList P ops Q rest (a.put o.dst (.slice hd'.ao (r.n + m) hd'.cap)) w') :
    wpList P ops Q (o :: rest) a w := by
  refine wpList_append_own_at w hg s x t hop 0 r.e i z r.size bytes h1 h2 h3 h4 h5 h6 h7 (.slice h.ao r.n h.cap) r.n r.xs hs hown ad m c news hx hn hc h1c b1 b2 (Nat.zero_le _) ?_
  intro v' w' q1 q2 q3 q4
  rw [own_blk] at q2 q4
  rcases q1.2 with ⟨e1, e2⟩ | ⟨g, cap', cur, e1, e2⟩
  · have := hK ⟨none, 0⟩ w' ⟨q1.1, Or.inl ⟨by rw [e2], e2⟩⟩ q2 (by rw [e1] at q4; exact q4)
    rw [e1]; rw [e2] at this; exact this
  · have := hK ⟨some ⟨g, 0, none⟩, cap'⟩ w' ⟨q1.1, Or.inr ⟨g, cap', cur, rfl, e2⟩⟩ q2 (by rw [e1] at q4; exact q4)
    rw [e1]; exact this

/-- What a symbol becomes. -/
def becF (vs : List ByteArray) (bs : List (List ByteArray)) (x : ByteArray) : List ByteArray := match posF vs x with | none => [x] | some i => bs.getD i []
def replTo (vs : List ByteArray) (bs : List (List ByteArray)) : List ByteArray → List ByteArray → List ByteArray
  | [], acc => acc
  | x :: r, acc => if acc.length ≤ 32 then replTo vs bs r (acc ++ becF vs bs x) else acc
def replF (vs : List ByteArray) (bs : List (List ByteArray)) (sy : List ByteArray) : List ByteArray := replTo vs bs sy []
theorem repl_at (vs : List ByteArray) (bs : List (List ByteArray)) (sy acc : List ByteArray) (k : Nat) (hk : k < sy.length) (ha : acc.length ≤ 32) : replTo vs bs (sy.drop k) acc = replTo vs bs (sy.drop (k + 1)) (acc ++ becF vs bs sy[k]) := by
  rw [List.drop_eq_getElem_cons hk, replTo, if_pos ha]
theorem repl_full (vs : List ByteArray) (bs : List (List ByteArray)) (sy acc : List ByteArray) (ha : ¬ acc.length ≤ 32) : replTo vs bs sy acc = acc := by
  cases sy with
  | nil => rfl
  | cons x r => rw [replTo, if_neg ha]
theorem repl_end (vs : List ByteArray) (bs : List (List ByteArray)) (sy acc : List ByteArray) (k : Nat) (hk : ¬ k < sy.length) : replTo vs bs (sy.drop k) acc = acc := by
  rw [List.drop_of_length_le (by omega)]; rfl
theorem becF_len (vs : List ByteArray) (bs : List (List ByteArray)) (x : ByteArray) (M : Nat) (hM : 1 ≤ M) (h : ∀ b ∈ bs, b.length ≤ M) : (becF vs bs x).length ≤ M := by
  unfold becF
  split
  · simpa using hM
  · next i _ =>
    rw [List.getD_eq_getElem?_getD]
    cases e : bs[i]? with
    | none => simp
    | some b => simpa using h b (List.mem_of_getElem? e)
theorem replTo_len (vs : List ByteArray) (bs : List (List ByteArray)) (M : Nat) (hM : 1 ≤ M) (h : ∀ b ∈ bs, b.length ≤ M) (sy acc : List ByteArray) (ha : acc.length ≤ 32 + M) : (replTo vs bs sy acc).length ≤ 32 + M := by
  induction sy generalizing acc with
  | nil => exact ha
  | cons x r ih =>
    rw [replTo]
    split
    · have := becF_len vs bs x M hM h
      exact ih _ (by simp; omega)
    · exact ha
theorem replF_len (vs : List ByteArray) (bs : List (List ByteArray)) (M : Nat) (hM : 1 ≤ M) (h : ∀ b ∈ bs, b.length ≤ M) (sy : List ByteArray) : (replF vs bs sy).length ≤ 32 + M := replTo_len vs bs M hM h sy [] (by simp)

theorem rowS_many (l m : List ByteArray) : (⟨(rowS l).e, (rowS l).size, (rowS l).n + m.length, (rowS l).xs ++ strs m⟩ : Row) = rowS (l ++ m) := by simp [rowS, strs]

theorem View.cells {w : World} {h : Hd} {l : List ByteArray} {ad : Addr} (v : View w h l) (e : h.ao = some ad) : ∀ j u, (strs l)[j]? = some u → w.cell? (ad.add j) = some u := by
  intro j u hu
  rcases v with rfl | ⟨g, off, cur, t, e1, e2, e3, -⟩
  · simp [strs] at hu
  · rw [e] at e1
    cases e1
    have hj : (l[j]?).map Value.string = some u := by simpa [strs] using hu
    cases hl : l[j]? with
    | none => rw [hl] at hj; cases hj
    | some x =>
      rw [hl] at hj; cases hj
      have : (⟨g, off, none⟩ : Addr).add j = ⟨g, off + j, none⟩ := by
        simp only [Addr.add]
        split
        · next hz => subst hz; rfl
        · rfl
      rw [this, cell_of e2]
      exact e3 j x hl

set_option maxHeartbeats 1600000 in
set_option maxRecDepth 100000 in
theorem replace_any (b : Nat) (vs : List ByteArray) (be : List Ex) (H : Nat → Hd) (hy : Hd) (sy : List ByteArray) (w : World) (h : SubIs w b vs be H) (hl : vs.length ≤ 10000) (hbl : ∀ e ∈ be, e.xs.length ≤ 10000) (hv : View w hy sy) (hyl : sy.length ≤ 10000) :
    Calls Tryz.prog 125 #[.pointer (some ⟨b, 0, none⟩), .slice hy.ao sy.length hy.cap] w fun e w' => ∃ hd : Hd,
      e = .returned (.slice hd.ao (replF vs (be.map Ex.xs) sy).length hd.cap) ∧ Owns w' hd (rowS (replF vs (be.map Ex.xs) sy)) ∧ (∀ x, hd.blk = some x → w.heap.size ≤ x) ∧ Kept [] w w' := by
  obtain ⟨i0, hi, hz0, hz1, hz2⟩ := info_parts infoS
  obtain ⟨ao, cap⟩ := hy
  rcases hv with rfl | ⟨g, off, cur, t, e1, e2, e3, e4, e5⟩
  · clear hyl
    go_enter Tryz.func125, Tryz.ntmps125
    go_wp2
    refine wp_loop_rounds 1 ?_
    rw [rounds_succ]
    go_wp2
    go_ret
    exact ⟨⟨none, 0⟩, rfl, World.ownsRow_nil _ _ _ _, by intro x hx; simp [Hd.blk] at hx, Kept.refl _ _⟩
  simp only at e1 e4 e5
  subst e1
  obtain ⟨R, HR⟩ : ∃ R, Hid (R = replF vs (be.map Ex.xs) sy) := ⟨_, rfl⟩
  rw [← HR.out]
  go_enter Tryz.func125, Tryz.ntmps125
  go_wp2
  go_loopg [5, 6] sy.length (fun gk sv i wr => ∃ (k : Nat) (hd : Hd) (acc : List ByteArray), k ≤ sy.length ∧ gk = sy.length - k ∧ i = .int .i64 k ∧ sv = .slice hd.ao acc.length hd.cap ∧ acc.length ≤ 10032 ∧ Hid (R = replTo vs (be.map Ex.xs) (sy.drop k) acc) ∧ Owns wr hd (rowS acc) ∧ (∀ x, hd.blk = some x → w.heap.size ≤ x) ∧ Kept [] w wr)
  case atStart => exact ⟨0, ⟨none, 0⟩, [], by omega, by omega, rfl, rfl, by simp, HR.out, World.ownsRow_nil _ _ _ _, by intro x hx; simp [Hd.blk] at hx, Kept.refl _ _⟩
  case round =>
    obtain ⟨k, hd, acc, hk, hg, rfl, rfl, hal, hRk, hO, hN, hK⟩ := hrel
    have hS := h.still hK
    by_cases hlt : k < sy.length
    · by_cases ha : acc.length ≤ 32
      · have hai : (acc.length : Int) ≤ 32 := by omega
        have c2 : wr.cell? ⟨g, off + k, none⟩ = some (.string sy[k]) := (cell_of (hK.get e2 (by simp)) (off + k)).trans (e3 k sy[k] (List.getElem?_eq_getElem hlt))
        have HRN := (show Hid _ from hRk.out.trans (repl_at vs (be.map Ex.xs) sy acc k hlt ha))
        have HSF := (show Hid _ from fun w1 h1 => sfind_any b vs be H sy[k] w1 h1 (by omega))
        clear hRk e3
        generalize sy[k] = y at *
        rcases hp : posF vs y with _ | p
        · have HRM : Hid (R = replTo vs (be.map Ex.xs) (sy.drop (k + 1)) (acc ++ [y])) := by show _ = _; rw [HRN.out]; simp [becF, hp]
          have hO4 := hO.moved (fun x hx => ((Kept.refl [] wr).alloc (.cells #[.string y] 9)).block x (hO.lt hx) (by simp))
          clear HRN
          go_upto_region 7 with (go_at_call 131; refine (HSF.out _ hS).mono ?_; rintro e w3 ⟨rfl, hw3⟩; rw [hw3, hp]; simp only [optV])
          go_wp2_with (at_builtin; refine wpList_append_row _ rfl (.tmp 27) (.tmp 32) 22 rfl i0 (.string ⟨#[]⟩) 16 hd (rowS acc) Tryz.underlying22 hi hz0 hz1 hz2 rfl Nat.one_pos rfl (by exact hO4) ⟨_, 0, none⟩ 1 1 [.string y] rfl rfl ?d1 ?d2 Nat.one_pos ?d3 ?d4 ?_)
          case d1 => intro j u hj; match j, hj with | 0, hj => simp at hj; subst hj; simp [Addr.add]
          case d2 => intro u hu; simp at hu; subst hu; rfl
          case d3 => simp only [rowS]; unfold maxLen; omega
          case d4 => simp only [rowS]; omega
          intro g5 cap5 w5 hw5 hgr5 hfresh5
          rw [rowS_snoc acc y] at hw5
          have hK4 := hK.alloc (.cells #[.string y] 9)
          have hK5 := hK4.grown hgr5 hN
          have hg5 : w.heap.size ≤ g5 := by
            rcases hfresh5 with e | e
            · exact hN g5 e
            · have := hK4.size; simp at e this; omega
          have hEl : Hid ((rowS acc).n + 1 = (acc ++ [y]).length) := by show _ = _; simp [rowS]
          rw [hEl.out]
          clear hgr5 hfresh5 hO4
          go_wp2
          go_roundg (sy.length - (k + 1))
          case measure => omega
          case rel => exact ⟨k + 1, ⟨some ⟨g5, 0, none⟩, cap5⟩, acc ++ [y], by omega, rfl, by go_num, rfl, by simp; omega, HRM.out, hw5, by intro x hx; simp [Hd.blk] at hx; omega, hK5⟩
        · have hpl : p < vs.length := by
            have := List.mem_of_find?_eq_some hp
            simpa using this
          have hle := h.len
          have hpb : p < be.length := by omega
          have HRM : Hid (R = replTo vs (be.map Ex.xs) (sy.drop (k + 1)) (acc ++ be[p].xs)) := by show _ = _; rw [HRN.out]; simp [becF, hp, hpb]
          have hex := hS.exs be[p] (List.getElem_mem hpb)
          have hxl := hbl be[p] (List.getElem_mem hpb)
          obtain ⟨ad, had⟩ := hex.adr
          have hnc := hex.view.cells had
          obtain ⟨s0, s1⟩ := hS.cells
          have hOB : Owns wr (H 1) (rowE be) := hS.bag.own 1
          rcases hOB.ways with ⟨_, h0, _⟩ | ⟨gb, curb, eb, -, eb3, -⟩
          · have : be.length = 0 := h0
            omega
          have cb := hOB.cell eb p (exV be[p]) (exsV_at be p hpb)
          have hcpb : be.length ≤ (H 1).cap := eb3
          rw [eb] at s1
          unfold exV at cb
          rw [had] at cb
          have HNC := (show Hid _ from hnc)
          clear HRN hex had hnc hOB eb
          generalize be[p] = ex at *
          obtain ⟨exh, exs⟩ := ex
          simp only at cb hxl HRM HNC
          go_upto_region 8 with (go_at_call 131; refine (HSF.out _ hS).mono ?_; rintro e w3 ⟨rfl, hw3⟩; rw [hw3, hp]; simp only [optV])
          go_wp2_with (at_builtin; refine wpList_append_any _ rfl (.tmp 34) (.tmp 41) 22 rfl i0 (.string ⟨#[]⟩) 16 hd (rowS acc) Tryz.underlying22 hi hz0 hz1 hz2 rfl Nat.one_pos rfl (by exact hO) ad exs.length exh.cap (strs exs) rfl (by simp [strs, rowS]) HNC.out ?d2 ?d3 ?d4 ?_)
          case d2 => intro u hu; simp [strs] at hu; obtain ⟨_, _, rfl⟩ := hu; rfl
          case d3 => simp only [rowS]; unfold maxLen; omega
          case d4 => simp only [rowS]; omega
          intro hd5 w5 hw5 hgr5 hfresh5
          rw [rowS_many acc exs] at hw5
          have hK5 := hK.grown hgr5 hN
          have hg5 : ∀ x, hd5.blk = some x → w.heap.size ≤ x := by
            intro x hx
            rcases hfresh5 with e | e
            · exact hN x (e ▸ hx)
            · rw [e] at hx; cases hx; exact hK.size
          have hEl : Hid ((rowS acc).n + exs.length = (acc ++ exs).length) := by show _ = _; simp [rowS]
          rw [hEl.out]
          clear hgr5 hfresh5
          go_wp2
          go_roundg (sy.length - (k + 1))
          case measure => omega
          case rel => exact ⟨k + 1, hd5, acc ++ exs, by omega, rfl, by go_num, rfl, by simp; omega, HRM.out, hw5, hg5, hK5⟩
      · have hai : ¬ (acc.length : Int) ≤ 32 := by omega
        have HRM : Hid (acc = R) := (hRk.out.trans (repl_full _ _ _ _ ha)).symm
        clear hRk e3
        go_wp2
        go_ret
        exact ⟨hd, by rw [← HRM.out]; rfl, by rw [← HRM.out]; exact hO, hN, hK⟩
    · have HRM : Hid (acc = R) := (hRk.out.trans (repl_end _ _ _ _ _ hlt)).symm
      clear hRk e3
      go_wp2
      go_ret
      exact ⟨hd, by rw [← HRM.out]; rfl, by rw [← HRM.out]; exact hO, hN, hK⟩

end Go.Proofs.YtkancbaldeeijaaGreat
