/- Our texts: Ap1, Ap2, Ap3. -/
import Derived.BigQuiet
import Derived.Test.YtkancbaldeeijaaGreatG15
/- Package apart: positions. -/
namespace Go.Proofs.YtkancbaldeeijaaGreat
open Go.RowKit

/-- Where in a list a word stands. -/
def posF (vs : List ByteArray) (x : ByteArray) : Option Nat := (List.range vs.length).find? (fun i => (vs.getD i ⟨#[]⟩).toList == x.toList)
def bools (l : List Bool) : List Value := l.map Value.bool
def rowBl (l : List Bool) : Row := ⟨4, 1, l.length, bools l⟩
/-- A table of variables: its own two lists. -/
structure ApIs (w : World) (tb : Nat) (vs : List ByteArray) (ms : List Bool) (hv hm : Hd) : Prop where
  blk : w.heap[tb]? = some (.cells #[.slice hv.ao vs.length hv.cap, .slice hm.ao ms.length hm.cap] 156 (0, 0))
  vars : Owns w hv (rowS vs)
  marks : Owns w hm (rowBl ms)
  o1 : hv.blk ≠ some tb
  o2 : hm.blk ≠ some tb
  o3 : hv.blk = none ∨ hv.blk ≠ hm.blk
theorem ApIs.cells {w : World} {tb : Nat} {vs : List ByteArray} {ms : List Bool} {hv hm : Hd} (h : ApIs w tb vs ms hv hm) : w.cell? ⟨tb, 0, none⟩ = some (.slice hv.ao vs.length hv.cap) ∧ w.cell? ⟨tb, 1, none⟩ = some (.slice hm.ao ms.length hm.cap) := by
  refine ⟨?_, ?_⟩ <;> (rw [cell_of h.blk]; rfl)
theorem ApIs.lt {w : World} {tb : Nat} {vs : List ByteArray} {ms : List Bool} {hv hm : Hd} (h : ApIs w tb vs ms hv hm) : tb < w.heap.size := lt_of_get h.blk
theorem ApIs.kept {w w' : World} {tb : Nat} {vs : List ByteArray} {ms : List Bool} {hv hm : Hd} {S : List Nat} (h : ApIs w tb vs ms hv hm) (k : Kept S w w') (h1 : tb ∉ S) (h2 : ∀ x, hv.blk = some x ∨ hm.blk = some x → x ∉ S) : ApIs w' tb vs ms hv hm :=
  ⟨k.get h.blk h1, h.vars.moved (fun x hx => k.block x (h.vars.lt hx) (h2 x (Or.inl hx))), h.marks.moved (fun x hx => k.block x (h.marks.lt hx) (h2 x (Or.inr hx))), h.o1, h.o2, h.o3⟩
theorem ApIs.still {w w' : World} {tb : Nat} {vs : List ByteArray} {ms : List Bool} {hv hm : Hd} (h : ApIs w tb vs ms hv hm) (k : Kept [] w w') : ApIs w' tb vs ms hv hm := h.kept k (by simp) (by simp)

set_option maxHeartbeats 800000 in
theorem position_any (tb : Nat) (vs : List ByteArray) (ms : List Bool) (hv hm : Hd) (x : ByteArray) (w : World) (h : ApIs w tb vs ms hv hm) (hl : vs.length ≤ 1073741824) :
    Calls Tryz.prog 108 #[.pointer (some ⟨tb, 0, none⟩), .string x] w fun e w' => e = .returned (.int .i64 (optV (posF vs x))) ∧ w' = w := by
  obtain ⟨c0, c1⟩ := h.cells
  go_enter Tryz.func108, Tryz.ntmps108
  go_wp2
  go_loopg [5] vs.length (fun g i wr => ∃ k : Nat, k ≤ vs.length ∧ g = vs.length - k ∧ i = .int .i64 k ∧ Hid (∀ i, i < k → ((vs.getD i ⟨#[]⟩).toList == x.toList) = false) ∧ wr = w)
  case atStart => exact ⟨0, by omega, by omega, rfl, fun i hi => by omega, rfl⟩
  case round =>
    obtain ⟨k, hk, hg, rfl, hall, rfl⟩ := hrel
    by_cases hlt : k < vs.length
    · rcases h.vars.ways with ⟨_, h0, _⟩ | ⟨g, cur, e1, -, e3, -⟩
      · have : vs.length = 0 := h0
        omega
      · have c2 := h.vars.cell e1 k (.string vs[k]) (strs_at vs k hlt)
        rw [e1] at c0
        have HG := (show Hid _ from getD_at vs k hlt)
        have hcp : vs.length ≤ hv.cap := e3
        generalize vs[k] = y at *
        cases hb : (y.toList == x.toList)
        · have HN : Hid (∀ i, i < k + 1 → ((vs.getD i ⟨#[]⟩).toList == x.toList) = false) := by
            intro i hi
            by_cases e : i = k
            · subst e; rw [HG.out]; exact hb
            · exact hall.out i (by omega)
          clear HG h
          go_wp2
          go_roundg (vs.length - (k + 1))
          case measure => omega
          case rel => exact ⟨k + 1, by omega, rfl, by go_num, HN, rfl⟩
        · have HF : Hid (posF vs x = some k) := range_hit hlt (by rw [HG.out]; exact hb) hall.out
          clear HG h
          go_wp2
          go_ret
          exact ⟨ret_int (by rw [HF.out]; rfl), rfl⟩
    · have HF : Hid (posF vs x = none) := range_none (fun i hi => hall.out i (by omega))
      clear h
      go_wp2
      go_ret
      exact ⟨ret_int (by rw [HF.out]; rfl), rfl⟩

/-- The positions of those words that stand in the list. -/
def positionsF (vs ws : List ByteArray) : List Nat := ws.filterMap (posF vs)
theorem positions_some (vs ws : List ByteArray) (k p : Nat) (h : k < ws.length) (hp : posF vs ws[k] = some p) : positionsF vs (ws.take (k + 1)) = positionsF vs (ws.take k) ++ [p] := by
  unfold positionsF; rw [take_snoc ws k h, List.filterMap_append]; simp [hp]
theorem positions_none (vs ws : List ByteArray) (k : Nat) (h : k < ws.length) (hp : posF vs ws[k] = none) : positionsF vs (ws.take (k + 1)) = positionsF vs (ws.take k) := by
  unfold positionsF; rw [take_snoc ws k h, List.filterMap_append]; simp [hp]
theorem positions_len (vs ws : List ByteArray) : (positionsF vs ws).length ≤ ws.length := List.length_filterMap_le _ _

set_option maxHeartbeats 1600000 in
set_option maxRecDepth 100000 in
theorem positions_any (tb : Nat) (vs : List ByteArray) (ms : List Bool) (hv hm hw : Hd) (ws : List ByteArray) (w : World) (h : ApIs w tb vs ms hv hm) (hl : vs.length ≤ 1073741824) (hvw : View w hw ws) (hwl : ws.length ≤ 1000000) :
    Calls Tryz.prog 90 #[.pointer (some ⟨tb, 0, none⟩), .slice hw.ao ws.length hw.cap] w fun e w' => ∃ hd : Hd, e = .returned (.slice hd.ao (positionsF vs ws).length hd.cap) ∧ Owns w' hd (rowN (positionsF vs ws)) ∧ (∀ x, hd.blk = some x → w.heap.size ≤ x) ∧ Kept [] w w' := by
  obtain ⟨i0, hi, hz0, hz1, hz2⟩ := info_parts infoN
  obtain ⟨ao, cap⟩ := hw
  rcases hvw with rfl | ⟨g, off, cur, t, e1, e2, e3, e4, e5⟩
  · clear hwl
    go_enter Tryz.func90, Tryz.ntmps90
    go_wp2
    refine wp_loop_rounds 1 ?_
    rw [rounds_succ]
    go_wp2
    go_ret
    exact ⟨⟨none, 0⟩, rfl, World.ownsRow_nil _ _ _ _, by intro x hx; simp [Hd.blk] at hx, Kept.refl _ _⟩
  simp only at e1
  subst e1
  go_enter Tryz.func90, Tryz.ntmps90
  go_wp2
  go_loopg [5, 6] ws.length (fun gk sv i wr => ∃ (k : Nat) (hd : Hd), k ≤ ws.length ∧ gk = ws.length - k ∧ i = .int .i64 k ∧ sv = .slice hd.ao (positionsF vs (ws.take k)).length hd.cap ∧ Owns wr hd (rowN (positionsF vs (ws.take k))) ∧ (∀ x, hd.blk = some x → w.heap.size ≤ x) ∧ Kept [] w wr)
  case atStart => exact ⟨0, ⟨none, 0⟩, by omega, by omega, rfl, rfl, World.ownsRow_nil _ _ _ _, by intro x hx; simp [Hd.blk] at hx, Kept.refl _ _⟩
  case round =>
    obtain ⟨k, hd, hk, hg, rfl, rfl, hO, hN, hK⟩ := hrel
    have hr := h.still hK
    have hlp := positions_len vs (ws.take k)
    have hlt' : (ws.take k).length ≤ k := by simp; omega
    by_cases hlt : k < ws.length
    · have c2 : wr.cell? ⟨g, off + k, none⟩ = some (.string ws[k]) := (cell_of (hK.get e2 (by simp)) (off + k)).trans (e3 k ws[k] (List.getElem?_eq_getElem hlt))
      · skip
        have PS := fun p => positions_some vs ws k p hlt
        have PN := positions_none vs ws k hlt
        have HPS := (show Hid _ from PS)
        have HPN := (show Hid _ from PN)
        have PA := position_any tb vs ms hv hm ws[k] wr hr hl
        have HPA := (show Hid _ from PA)
        clear PS PN PA e3
        generalize ws[k] = y at *
        rcases hp : posF vs y with _ | p
        · have HT := (show Hid _ from HPN.out hp)
          rw [hp] at HPA
          simp only [optV] at HPA
          clear HPS HPN
          go_wp2_with (go_at_call 108; refine Calls.mono HPA.out ?_; rintro e w3 ⟨rfl, rfl⟩)
          go_roundg (ws.length - (k + 1))
          case measure => omega
          case rel => exact ⟨k + 1, hd, by omega, rfl, by go_num, by rw [HT.out], by rw [HT.out]; exact hO, hN, hK⟩
        · have HT := (show Hid _ from HPS.out p hp)
          rw [hp] at HPA
          simp only [optV] at HPA
          have hO4 := hO.moved (fun x hx => ((Kept.refl [] wr).alloc (.cells #[.int .i64 p] 3)).block x (hO.lt hx) (by simp))
          clear HPS HPN
          go_wp2_with (first | (go_at_call 108; refine Calls.mono HPA.out ?_; rintro e w3 ⟨rfl, hw3⟩; rw [hw3]) | (at_builtin; refine wpList_append_row _ rfl (.tmp 22) (.tmp 24) 35 rfl i0 (.int .i64 0) 8 hd (rowN (positionsF vs (ws.take k))) Tryz.underlying35 hi hz0 hz1 hz2 rfl Nat.one_pos rfl (by exact hO4) ⟨_, 0, none⟩ 1 1 [.int .i64 p] rfl rfl ?d1 ?d2 Nat.one_pos ?d3 ?d4 ?_))
          case d1 => intro j u hj; match j, hj with | 0, hj => simp at hj; subst hj; simp [Addr.add]
          case d2 => intro u hu; simp at hu; subst hu; rfl
          case d3 => simp only [rowN]; unfold maxLen; omega
          case d4 => simp only [rowN]; omega
          intro g5 cap5 w5 hw5 hgr5 hfresh5
          rw [rowN_snoc (positionsF vs (ws.take k)) p, ← HT.out] at hw5
          have hK4 := hK.alloc (.cells #[.int .i64 p] 3)
          have hK5 := hK4.grown hgr5 hN
          have hg5 : w.heap.size ≤ g5 := by
            rcases hfresh5 with e | e
            · exact hN g5 e
            · have := hK4.size; simp at e this; omega
          have hEl : Hid ((rowN (positionsF vs (ws.take k))).n + 1 = (positionsF vs (ws.take (k + 1))).length) := by show _ = _; rw [HT.out]; simp [rowN]
          rw [hEl.out]
          clear hgr5 hfresh5 hO4
          go_wp2
          go_roundg (ws.length - (k + 1))
          case measure => omega
          case rel => exact ⟨k + 1, ⟨some ⟨g5, 0, none⟩, cap5⟩, by omega, rfl, by go_num, rfl, hw5, by intro x hx; simp [Hd.blk] at hx; omega, hK5⟩
    · have e : k = ws.length := by omega
      subst e
      rw [List.take_length] at hO ⊢
      go_wp2
      go_ret
      exact ⟨hd, rfl, hO, hN, hK⟩

end Go.Proofs.YtkancbaldeeijaaGreat

/- Package apart: marks. -/
namespace Go.Proofs.YtkancbaldeeijaaGreat
open Go.RowKit

def markRow (side mi : Nat) (mem : List Nat) (ms : List Bool) : List Bool := mem.foldl (fun ms mj => ms.set (mi * side + mj) true) ms
def markAllF (side : Nat) (mem : List Nat) (ms : List Bool) : List Bool := mem.foldl (fun ms mi => markRow side mi mem ms) ms
/-- The same as far as the first i, and of the next one the first j. -/
def markTo (side : Nat) (mem : List Nat) (ms : List Bool) (i j : Nat) : List Bool := markRow side (mem.getD i 0) (mem.take j) ((mem.take i).foldl (fun ms mi => markRow side mi mem ms) ms)
theorem markRow_len (side mi : Nat) (mem : List Nat) (ms : List Bool) : (markRow side mi mem ms).length = ms.length := by
  unfold markRow
  induction mem generalizing ms with
  | nil => rfl
  | cons a r ih => rw [List.foldl_cons, ih]; simp
theorem markFold_len (side : Nat) (mem r : List Nat) (ms : List Bool) : (r.foldl (fun ms mi => markRow side mi mem ms) ms).length = ms.length := by
  induction r generalizing ms with
  | nil => rfl
  | cons a r ih => rw [List.foldl_cons, ih, markRow_len]
theorem markTo_len (side : Nat) (mem : List Nat) (ms : List Bool) (i j : Nat) : (markTo side mem ms i j).length = ms.length := by
  unfold markTo; rw [markRow_len, markFold_len]
theorem markTo_step (side : Nat) (mem : List Nat) (ms : List Bool) (i j : Nat) (hj : j < mem.length) : markTo side mem ms i (j + 1) = (markTo side mem ms i j).set (mem.getD i 0 * side + mem[j]) true := by
  unfold markTo markRow
  rw [take_snoc mem j hj, List.foldl_append]; rfl
theorem markTo_row (side : Nat) (mem : List Nat) (ms : List Bool) (i : Nat) (hi : i < mem.length) : markTo side mem ms i mem.length = markTo side mem ms (i + 1) 0 := by
  have e : mem.getD i 0 = mem[i] := by rw [List.getD_eq_getElem?_getD, List.getElem?_eq_getElem hi]; rfl
  unfold markTo
  rw [List.take_length, take_snoc mem i hi, List.foldl_append, e]
  rfl
theorem markTo_end (side : Nat) (mem : List Nat) (ms : List Bool) : markTo side mem ms mem.length 0 = markAllF side mem ms := by
  unfold markTo markAllF; rw [List.take_length]; rfl

theorem bools_len (l : List Bool) : (bools l).length = l.length * 1 := by simp [bools]
theorem ApIs.mark {w : World} {tb : Nat} {vs : List ByteArray} {ms : List Bool} {hv hm : Hd} (h : ApIs w tb vs ms hv hm) (gm : Nat) (e : hm.ao = some ⟨gm, 0, none⟩) (i : Nat) (hi : i < ms.length) :
    ApIs (w.setCell ⟨gm, i, none⟩ (.bool true)) tb vs (ms.set i true) hv hm := by
  have hb : hm.blk = some gm := by unfold Hd.blk; rw [e]; rfl
  refine ⟨?_, ?_, ?_, h.o1, h.o2, h.o3⟩
  · rw [Below.heap_setCell _ _ _ _ (by rintro rfl; exact h.o2 hb), h.blk]; simp
  · refine h.vars.moved (fun x hx => Below.heap_setCell _ _ _ _ ?_)
    rintro rfl
    rcases h.o3 with a | a
    · rw [a] at hx; cases hx
    · exact a (hx.trans hb.symm)
  · rcases h.marks.ways with ⟨_, h0, _⟩ | ⟨g, cur, e1, e2, e3, e4, e5, e6⟩
    · have : ms.length = 0 := h0
      omega
    · have : g = gm := by rw [e] at e1; injection e1 with e1; injection e1 with e1; exact e1.symm
      subst this
      refine ⟨by simp only [rowBl]; rw [bools_len], Or.inr ⟨g, hm.cap, cur.setIfInBounds i (.bool true), ?_, Nat.zero_le _, block_setCell e2 _ _, ?_, e4, ?_, ?_⟩⟩
      · simp [rowBl, e]
      · simpa [rowBl] using e3
      · simpa [rowBl] using e5
      · have e6' : cur.toList.take (ms.length * 1) = bools ms := e6
        simp only [rowBl, List.length_set, Array.toList_setIfInBounds, List.take_set, e6']
        simp [bools, List.map_set]

theorem nums_at (l : List Nat) (k : Nat) (h : k < l.length) : (nums l)[k]? = some (.int .i64 l[k]) := by simp [nums, h]

set_option maxHeartbeats 2000000 in
set_option maxRecDepth 100000 in
theorem markAll_any (tb : Nat) (vs : List ByteArray) (ms : List Bool) (hv hm hw : Hd) (mem : List Nat) (w : World) (h : ApIs w tb vs ms hv hm) (hml : ms.length = vs.length * vs.length) (hvl : vs.length ≤ 10000) (hO : Owns w hw (rowN mem)) (hmm : mem.length ≤ 1000000)
    (hin : ∀ i (hi : i < mem.length), mem[i] < vs.length) (hne : ∀ x, hw.blk = some x → hm.blk ≠ some x) :
    Calls Tryz.prog 89 #[.pointer (some ⟨tb, 0, none⟩), .slice hw.ao mem.length hw.cap] w fun e w' => e = .returned (.tuple #[]) ∧ ApIs w' tb vs (markAllF vs.length mem ms) hv hm ∧ KeptP (fun k => hm.blk = some k) w w' := by
  obtain ⟨ao, cap⟩ := hw
  rcases hO.ways with ⟨e0, h0, _⟩ | ⟨g, cur, e1, e2, e3, e4, -⟩
  · have h0' : mem.length = 0 := h0
    have hl0 : mem = [] := List.eq_nil_of_length_eq_zero h0'
    subst hl0
    clear hO h0 h0' e0 hmm hin hne
    go_enter Tryz.func89, Tryz.ntmps89
    go_wp2
    refine wp_loop_rounds 1 ?_
    rw [rounds_succ]
    go_wp2
    go_end0
    exact ⟨rfl, h, KeptP.refl _ _⟩
  simp only at e1 e3 e4
  have hcp : mem.length ≤ cap := e3
  have e4' : cap ≤ 9223372036854775807 := by unfold maxLen at e4; exact e4
  subst e1
  have hgb : hm.blk ≠ some g := hne g rfl
  go_enter Tryz.func89, Tryz.ntmps89
  go_wp2
  go_loopg [4] mem.length (fun gk i wr => ∃ k : Nat, k ≤ mem.length ∧ gk = mem.length - k ∧ i = .int .i64 k ∧ ApIs wr tb vs (markTo vs.length mem ms k 0) hv hm ∧ KeptP (fun k => hm.blk = some k) w wr)
  case atStart => exact ⟨0, by omega, by omega, rfl, h, KeptP.refl _ _⟩
  case round =>
    obtain ⟨k, hk, hg, rfl, hA, hK⟩ := hrel
    by_cases hlt : k < mem.length
    · have HR := (show Hid _ from markTo_row vs.length mem ms k hlt)
      go_wp2_with fail
      go_loopg [5] mem.length (fun gk2 i2 wr2 => ∃ j : Nat, j ≤ mem.length ∧ gk2 = mem.length - j ∧ i2 = .int .i64 j ∧ ApIs wr2 tb vs (markTo vs.length mem ms k j) hv hm ∧ KeptP (fun k => hm.blk = some k) w wr2)
      case atStart => exact ⟨0, by omega, by omega, rfl, hA, hK⟩
      case round =>
        obtain ⟨j, hj, hg2, rfl, hA2, hK2⟩ := hrel
        clear hA hK
        by_cases hlj : j < mem.length
        · have hxk := hin k hlt
          have hxj := hin j hlj
          have hOw : Owns wr ⟨some ⟨g, 0, none⟩, cap⟩ (rowN mem) := hO.moved (fun x hx => hK2.block x (hO.lt hx) (fun e => hne x hx e))
          have p1 := hOw.cell rfl k (.int .i64 mem[k]) (nums_at mem k hlt)
          have p2 := hOw.cell rfl j (.int .i64 mem[j]) (nums_at mem j hlj)
          obtain ⟨c0, c1⟩ := hA2.cells
          rw [markTo_len] at c1
          have ST := markTo_step vs.length mem ms k j hlj
          have eg : mem.getD k 0 = mem[k] := by rw [List.getD_eq_getElem?_getD, List.getElem?_eq_getElem hlt]; rfl
          rw [eg] at ST
          have hb1 : mem[k] * vs.length + mem[j] < ms.length := by
            rw [hml]
            have : (mem[k] + 1) * vs.length ≤ vs.length * vs.length := Nat.mul_le_mul_right _ hxk
            rw [Nat.add_mul] at this
            omega
          have hb2 : mem[k] * vs.length ≤ 10000 * 10000 := Nat.mul_le_mul (by omega) hvl
          have HMK := (show Hid _ from fun gm e => hA2.mark gm e (mem[k] * vs.length + mem[j]) (by rw [markTo_len]; exact hb1))
          have HST := (show Hid _ from ST)
          rcases hA2.marks.ways with ⟨_, h0, _⟩ | ⟨gm, curm, em, em2, em3, -⟩
          · have : (markTo vs.length mem ms k j).length = 0 := h0
            rw [markTo_len] at this
            omega
          · have em3' : ms.length ≤ hm.cap := by have : (markTo vs.length mem ms k j).length ≤ hm.cap := em3; rw [markTo_len] at this; exact this
            have hfm := free_of em2
            have hgm := lt_of_get em2
            have p3 := hA2.marks.cell em (mem[k] * vs.length + mem[j]) (.bool ((markTo vs.length mem ms k j)[mem[k] * vs.length + mem[j]]'(by rw [markTo_len]; exact hb1))) (by simp [rowBl, bools, markTo_len, hb1])
            rw [em] at c1
            clear ST em2 em3 hOw
            generalize (markTo vs.length mem ms k j)[mem[k] * vs.length + mem[j]]'(by rw [markTo_len]; exact hb1) = old at *
            generalize hx : mem[k] = x at *
            generalize hy : mem[j] = y at *
            obtain ⟨q, hq⟩ : ∃ q, x * vs.length = q := ⟨_, rfl⟩
            have hq' : (x : Int) * (vs.length : Int) = (q : Int) := by rw [← hq]; simp
            rw [hq] at hb1 hb2 p3 HMK HST
            clear hx hy eg
            go_wp2_with fail
            go_quiet (fail)
            go_wp2
            go_roundg (mem.length - (j + 1))
            case measure => omega
            case rel => exact ⟨j + 1, by omega, rfl, by go_num, by rw [HST.out]; exact (HMK.out gm em).still ((Kept.refl [] _).drewN nq), (hK2.still ((Kept.refl [] _).drewN nq)).setCell (Or.inl (by unfold Hd.blk; rw [em]; rfl)) _⟩
        · have e : j = mem.length := by omega
          subst e
          rw [HR.out] at hA2
          go_wp2
          go_roundg (mem.length - (k + 1))
          case measure => omega
          case rel => exact ⟨k + 1, by omega, rfl, by go_num, hA2, hK2⟩
    · have e : k = mem.length := by omega
      subst e
      rw [markTo_end] at hA
      go_wp2
      go_end0
      exact ⟨rfl, hA, hK⟩

end Go.Proofs.YtkancbaldeeijaaGreat

/- Package apart: Apart, At. -/
namespace Go.Proofs.YtkancbaldeeijaaGreat
open Go.RowKit

/-- Are these the positions of two different variables that are marked? -/
def apartF (side : Nat) (ms : List Bool) (i j : Nat) : Bool := !(i == j) && ms.getD (i * side + j) false

theorem square_lt {i j n : Nat} (hi : i < n) (hj : j < n) : i * n + j < n * n := by
  have : (i + 1) * n ≤ n * n := Nat.mul_le_mul_right _ hi
  rw [Nat.add_mul] at this
  omega

set_option maxHeartbeats 1600000 in
theorem apart_any (tb : Nat) (vs : List ByteArray) (ms : List Bool) (hv hm : Hd) (i j : Nat) (w : World) (h : ApIs w tb vs ms hv hm) (hml : ms.length = vs.length * vs.length) (hvl : vs.length ≤ 10000) (hi : i < vs.length) (hj : j < vs.length) :
    Calls Tryz.prog 129 #[.pointer (some ⟨tb, 0, none⟩), .int .i64 i, .int .i64 j] w fun e w' => e = .returned (.bool (apartF vs.length ms i j)) ∧ w' = w := by
  obtain ⟨c0, c1⟩ := h.cells
  have hb1 : i * vs.length + j < ms.length := by rw [hml]; exact square_lt hi hj
  have hb2 : i * vs.length ≤ 10000 * 10000 := Nat.mul_le_mul (by omega) hvl
  rcases h.marks.ways with ⟨_, h0, _⟩ | ⟨gm, curm, em, em2, em3, -⟩
  · have : ms.length = 0 := h0
    omega
  · have em3' : ms.length ≤ hm.cap := em3
    have p3 := h.marks.cell em (i * vs.length + j) (.bool ms[i * vs.length + j]) (by simp [rowBl, bools, hb1])
    have eg : ms.getD (i * vs.length + j) false = ms[i * vs.length + j] := by rw [List.getD_eq_getElem?_getD, List.getElem?_eq_getElem hb1]; rfl
    have HA : Hid (apartF vs.length ms i j = (!(i == j) && ms[i * vs.length + j])) := by show _ = _; unfold apartF; rw [eg]
    rw [em] at c1
    generalize ms[i * vs.length + j] = old at *
    obtain ⟨q, hq⟩ : ∃ q, i * vs.length = q := ⟨_, rfl⟩
    have hq' : (i : Int) * (vs.length : Int) = (q : Int) := by rw [← hq]; simp
    rw [hq] at hb1 hb2 p3
    clear eg em2 em3 h
    by_cases hij : i = j
    · have hd : ((i : Int) != (j : Int)) = false := by simp [hij]
      have HT : Hid (apartF vs.length ms i j = false) := by show _ = _; rw [HA.out]; simp [hij]
      clear HA
      go_enter Tryz.func129, Tryz.ntmps129
      go_wp2
      go_ret
      exact ⟨ret_bool HT.out.symm, rfl⟩
    · have hd : ((i : Int) != (j : Int)) = true := by simp; omega
      have HT : Hid (apartF vs.length ms i j = old) := by show _ = _; rw [HA.out]; simp [hij]
      clear HA
      go_enter Tryz.func129, Tryz.ntmps129
      go_wp2
      go_ret
      exact ⟨ret_bool HT.out.symm, rfl⟩

def disjF (l : List St) (a n : Nat) : Bool := match l[n]? with | some s => (s.kind == 1) && heldF l n a | none => false
theorem disj_eq (l : List St) (a n : Nat) (h : n < l.length) : disjF l a n = ((l[n].kind == 1) && heldF l n a) := by
  unfold disjF; rw [List.getElem?_eq_getElem h]
def marksTo (l : List St) (a : Nat) (vs : List ByteArray) : Nat → List Bool
  | 0 => List.replicate (vs.length * vs.length) false
  | k + 1 => if disjF l a k = true then markAllF vs.length (positionsF vs (symsAt l k)) (marksTo l a vs k) else marksTo l a vs k
/-- Which two of the variables stand together in a $d that is active at a. -/
def marksF (l : List St) (a : Nat) (vs : List ByteArray) : List Bool := marksTo l a vs l.length
theorem marksTo_len (l : List St) (a : Nat) (vs : List ByteArray) (k : Nat) : (marksTo l a vs k).length = vs.length * vs.length := by
  induction k with
  | zero => simp [marksTo]
  | succ k ih =>
    rw [marksTo]
    split
    · unfold markAllF; rw [markFold_len, ih]
    · exact ih
theorem posF_lt {vs : List ByteArray} {x : ByteArray} {p : Nat} (h : posF vs x = some p) : p < vs.length := by
  have := List.mem_of_find?_eq_some h
  simpa using this
theorem positions_lt (vs ws : List ByteArray) (i : Nat) (h : i < (positionsF vs ws).length) : (positionsF vs ws)[i] < vs.length := by
  have hm := List.getElem_mem h
  unfold positionsF at hm
  rw [List.mem_filterMap] at hm
  obtain ⟨x, _, hx⟩ := hm
  exact posF_lt hx

theorem infoBl : (Tryz.prog.info? 4).map (fun i => (i.zero, i.size, i.bytes)) = some (some (.bool false), 1, 1) := by kernel_rfl
theorem made_all (v : Value) (n : Nat) : madeCells #[v] n = (List.replicate n v).toArray := by
  apply Array.ext
  · rw [size_madeCells]; simp
  · intro i h1 h2
    have h : i < n := by rw [size_madeCells] at h1; exact h1
    have := made_at v n i h
    rw [Array.getElem?_eq_getElem h1] at this
    simp at this ⊢
    exact this
theorem build_tab (w : World) (a1 a2 : Option Addr) (n1 c1 n2 c2 : Nat) : (Instr.build 156 #[(0, .slice a1 n1 c1), (1, .slice a2 n2 c2)]).run Tryz.prog w = .ok (.agg #[.slice a1 n1 c1, .slice a2 n2 c2]) w :=
  run_build w 156 _ _ (by kernel_rfl)
attribute [local go_sem] build_tab

theorem Kept.ofP {P : Nat → Prop} {w wr w1 : World} (K : Kept [] w wr) (g : KeptP P wr w1) (hb : ∀ k, P k → w.heap.size ≤ k) : Kept [] w w1 :=
  ⟨g.os.trans K.os, g.tape.trans K.tape, g.output.trans K.output, Nat.le_trans K.size g.size, fun k hk _ => (g.block k (Nat.lt_of_lt_of_le hk K.size) (fun e => by have := hb k e; omega)).trans (K.block k hk (by simp))⟩

set_option maxHeartbeats 2000000 in
set_option maxRecDepth 100000 in
theorem at_any (b o a : Nat) (l : List St) (H : Nat → Hd) (hw : Hd) (vs : List ByteArray) (w : World) (h : RecAt w b o l H) (ok : RecOk l) (hO : Owns w hw (rowS vs)) (hvl : vs.length ≤ 10000) :
    Calls Tryz.prog 69 #[.pointer (some ⟨b, o, none⟩), .int .i64 a, .slice hw.ao vs.length hw.cap] w fun e w' => ∃ (tb : Nat) (hv hm : Hd), e = .returned (.pointer (some ⟨tb, 0, none⟩)) ∧ ApIs w' tb vs (marksF l a vs) hv hm ∧ w.heap.size ≤ tb ∧ (∀ x, hv.blk = some x ∨ hm.blk = some x → w.heap.size ≤ x) ∧ Kept [] w w' := by
  obtain ⟨i0, hi, hz0, hz1, hz2⟩ := info_parts infoS
  obtain ⟨i1, hi1, hy0, hy1, hy2⟩ := info_parts infoBl
  have hlen := ok.len
  have hbw := h.lt
  obtain ⟨q, hq⟩ : ∃ q, vs.length * vs.length = q := ⟨_, rfl⟩
  have hq' : (vs.length : Int) * (vs.length : Int) = (q : Int) := by rw [← hq]; simp
  have hql : q ≤ 10000 * 10000 := by rw [← hq]; exact Nat.mul_le_mul hvl hvl
  have m1 := fun w => run_make_row (P := Tryz.prog) w 22 9 i0 _ Tryz.underlying22 hi hz0 vs.length 1 hz1 (by rw [hz2]; omega) (by omega)
  have m2 := fun w => run_make_row (P := Tryz.prog) w 154 4 i1 _ Tryz.underlying154 hi1 hy0 q 1 hy1 (by rw [hy2]; omega) (by omega)
  obtain ⟨mc1, hmc1⟩ : ∃ mc, mc = madeCells (Value.string ⟨#[]⟩).cells (vs.length * 1) := ⟨_, rfl⟩
  obtain ⟨mc2, hmc2⟩ : ∃ mc, mc = madeCells (Value.bool false).cells (q * 1) := ⟨_, rfl⟩
  have z1 : mc1.size = vs.length * 1 := by rw [hmc1, size_madeCells]
  have HZ2 : Hid (mc2 = (bools (marksTo l a vs 0)).toArray) := by
    show _ = _
    rw [hmc2, Nat.mul_one, ← hq]
    have : (Value.bool false).cells = #[.bool false] := rfl
    rw [this, made_all]
    simp [marksTo, bools]
  rw [← hmc1] at m1
  rw [← hmc2] at m2
  clear hmc1 hmc2
  have K2 : Kept [] w (w.alloc (.cells mc1 9)) := (Kept.refl [] _).alloc _
  have Hsz1 : Hid ((Tryz.prog.info? (rowS vs).e).map (·.size) = some (rowS vs).size) := by show _ = _; simp [rowS, hi, hz1]
  obtain ⟨w3, cp1, hg3, hk3, hz3⟩ := copy_full (P := Tryz.prog) (w.alloc (.cells mc1 9)) 22 22 3 w.heap.size vs.length hw (rowS vs) mc1 9 Tryz.underlying22 Hsz1.out (heap_alloc_new _ _) (hO.moved (fun x hx => K2.block x (hO.lt hx) (by simp))) z1 (strs_one _)
  simp only [rowS] at cp1 hg3
  have hz3' : w3.heap.size = w.heap.size + 1 := by rw [hz3]; simp
  have K3 : Kept [] w w3 := ((K2.mono (S' := [w.heap.size]) (by simp)).trans hk3).mono (by simp)
  obtain ⟨W4, hW4⟩ : ∃ W4, W4 = (w3.alloc (.cells mc2 4)).alloc (.cells #[.slice (some ⟨w.heap.size, 0, none⟩) vs.length vs.length, .slice (some ⟨w3.heap.size, 0, none⟩) q q] 156) := ⟨_, rfl⟩
  have K4 : Kept [] w W4 := by rw [hW4]; exact (K3.alloc _).alloc _
  have hq0 : Hid (q = (marksTo l a vs 0).length) := by show _ = _; rw [marksTo_len, hq]
  have A4 : ApIs W4 (w3.heap.size + 1) vs (marksTo l a vs 0) ⟨some ⟨w.heap.size, 0, none⟩, vs.length⟩ ⟨some ⟨w3.heap.size, 0, none⟩, q⟩ := by
    refine ⟨?_, ?_, ?_, ?_, ?_, ?_⟩
    · rw [hW4, ← hq0.out]
      have := heap_alloc_new (w3.alloc (.cells mc2 4)) (.cells #[.slice (some ⟨w.heap.size, 0, none⟩) vs.length vs.length, .slice (some ⟨w3.heap.size, 0, none⟩) q q] 156)
      simpa using this
    · refine Owns.made (r := rowS vs) ?_ (strs_len _) (by simp only [rowS]; unfold maxLen; omega)
      rw [hW4]; exact (((Kept.refl [] _).alloc _).alloc _).get hg3 (by simp)
    · have e : (⟨some ⟨w3.heap.size, 0, none⟩, q⟩ : Hd) = ⟨some ⟨w3.heap.size, 0, none⟩, (rowBl (marksTo l a vs 0)).n⟩ := by rw [hq0.out]; rfl
      rw [e]
      refine Owns.made (r := rowBl (marksTo l a vs 0)) ?_ (bools_len _) (by simp only [rowBl]; rw [← hq0.out]; unfold maxLen; omega)
      rw [hW4]
      have := ((Kept.refl [] (w3.alloc (.cells mc2 4))).alloc (.cells #[.slice (some ⟨w.heap.size, 0, none⟩) vs.length vs.length, .slice (some ⟨w3.heap.size, 0, none⟩) q q] 156)).get (heap_alloc_new w3 (.cells mc2 4)) (by simp)
      rw [this, HZ2.out]; rfl
    · intro e; simp [Hd.blk] at e; omega
    · intro e; simp [Hd.blk] at e
    · right; intro e; simp [Hd.blk] at e; omega
  have HW4 := (show Hid _ from hW4.symm)
  rw [hz3'] at HW4 A4
  clear hW4 hk3 hg3 HZ2 K2 hO Hsz1 z1 hz3
  obtain ⟨hv, hhv⟩ : ∃ hv : Hd, hv = ⟨some ⟨w.heap.size, 0, none⟩, vs.length⟩ := ⟨_, rfl⟩
  obtain ⟨hm, hhm⟩ : ∃ hm : Hd, hm = ⟨some ⟨w.heap.size + 1, 0, none⟩, q⟩ := ⟨_, rfl⟩
  rw [← hhv, ← hhm] at A4
  have HB : Hid (∀ x, hv.blk = some x ∨ hm.blk = some x → w.heap.size ≤ x ∧ x ≤ w.heap.size + 1) := by
    intro x hx
    rw [hhv, hhm] at hx
    simp [Hd.blk] at hx
    omega
  clear hhv hhm
  go_enter Tryz.func69, Tryz.ntmps69
  go_upto_region 4 with fail
  rw [HW4.out]
  clear HW4 m1 m2 cp1 K3 hz3'
  go_wp2
  go_loopg [9] l.length (fun gk i wr => ∃ k : Nat, k ≤ l.length ∧ gk = l.length - k ∧ i = .int .i64 k ∧ ApIs wr (w.heap.size + 1 + 1) vs (marksTo l a vs k) hv hm ∧ Kept [] w wr)
  case atStart => exact ⟨0, by omega, by omega, rfl, A4, K4⟩
  case round =>
    obtain ⟨k, hk, hg, rfl, hA, hK⟩ := hrel
    have hr := h.still hK
    have hal := hA.lt
    clear A4 K4
    by_cases hlt : k < l.length
    · have HD := (show Hid _ from disj_eq l a k hlt)
      have hsk := ok.syms k hlt
      have hpk := ok.pos k hlt
      have SY : Hid (symsAt l k = l[k].symbols) := symsAt_eq l k hlt
      have HU : Hid (marksTo l a vs (k + 1) = if disjF l a k = true then markAllF vs.length (positionsF vs (symsAt l k)) (marksTo l a vs k) else marksTo l a vs k) := rfl
      cases hkd : (l[k].kind == 1)
      · have HT : Hid (marksTo l a vs (k + 1) = marksTo l a vs k) := by show _ = _; rw [HU.out, HD.out, hkd]; simp
        clear HD HU SY
        go_wp2_with (first | (go_at_call 36; refine (count_any b o l H _ (by exact hr)).mono ?_; rintro e wc ⟨rfl, rfl⟩) | (go_at_call 43; refine (statement_any b o k l H _ (by exact hr) hlt).mono ?_; rintro e w5 ⟨rfl, hk5⟩; unfold stVal))
        go_roundg (l.length - (k + 1))
        case measure => omega
        case rel => exact ⟨k + 1, by omega, rfl, by go_num, by rw [HT.out]; exact (hA.still hk5).still ((Kept.refl [] _).alloc _), (hK.trans hk5).alloc _⟩
      · go_wp2_with (first | (go_at_call 36; refine (count_any b o l H _ (by exact hr)).mono ?_; rintro e wc ⟨rfl, hwc⟩; rw [hwc]) | (go_at_call 43; refine (statement_any b o k l H _ (by exact hr) hlt).mono ?_; rintro e w5 ⟨rfl, hk5⟩; unfold stVal))
        obtain ⟨W6, hW6⟩ : ∃ W6, W6 = w5.alloc (.cells #[.int .i64 l[k].kind, .string l[k].label, .slice (H (10 + 2 * k)).ao l[k].symbols.length (H (10 + 2 * k)).cap, .slice (H (11 + 2 * k)).ao l[k].proof.length (H (11 + 2 * k)).cap, .string l[k].fin.file, .int .i64 l[k].fin.line, .int .i64 l[k].fin.col, .int .i64 l[k].til] 100) := ⟨_, rfl⟩
        rw [← hW6]
        have k6 : Kept [] wr W6 := by rw [hW6]; exact hk5.alloc _
        have B6 : W6.heap[w5.heap.size]? = some (.cells #[.int .i64 l[k].kind, .string l[k].label, .slice (H (10 + 2 * k)).ao l[k].symbols.length (H (10 + 2 * k)).cap, .slice (H (11 + 2 * k)).ao l[k].proof.length (H (11 + 2 * k)).cap, .string l[k].fin.file, .int .i64 l[k].fin.line, .int .i64 l[k].fin.col, .int .i64 l[k].til] 100 (0, 0)) := by rw [hW6]; exact heap_alloc_new _ _
        have q2 : W6.cell? ⟨w5.heap.size, 2, none⟩ = some (.slice (H (10 + 2 * k)).ao l[k].symbols.length (H (10 + 2 * k)).cap) := by rw [cell_of B6]; rfl
        have hr6 := hr.still k6
        have hA6 := hA.still k6
        have hK6 := hK.trans k6
        have hV6 := (hr6.sts.syms k l[k] (List.getElem?_eq_getElem hlt)).view
        clear hW6 hk5 k6 B6 hr hA hK
        cases hh : heldF l k a
        · have HT : Hid (marksTo l a vs (k + 1) = marksTo l a vs k) := by show _ = _; rw [HU.out, HD.out, hh]; simp
          clear HD HU SY
          go_wp2_with (go_at_call 64; refine (holds_any b o k a l H _ (by exact hr6) hlt).mono ?_; rintro e w7 ⟨rfl, rfl⟩)
          go_roundg (l.length - (k + 1))
          case measure => omega
          case rel => exact ⟨k + 1, by omega, rfl, by go_num, by rw [HT.out]; exact hA6, hK6⟩
        · have HT : Hid (marksTo l a vs (k + 1) = markAllF vs.length (positionsF vs l[k].symbols) (marksTo l a vs k)) := by show _ = _; rw [HU.out, HD.out, hkd, hh, SY.out]; simp
          clear HD HU SY
          go_wp2_with (first | (go_at_call 64; refine (holds_any b o k a l H _ (by exact hr6) hlt).mono ?_; rintro e w7 ⟨rfl, hw7⟩; rw [hw7]) | (go_at_call 90; refine (positions_any (w.heap.size + 1 + 1) vs (marksTo l a vs k) hv hm (H (10 + 2 * k)) l[k].symbols _ (by exact hA6) (by omega) (by exact hV6) (by omega)).mono ?_; rintro e w8 ⟨hd, rfl, hO8, hN8, hk8⟩))
          have hA8 := hA6.still hk8
          have hpl := positions_len vs l[k].symbols
          refine (markAll_any (w.heap.size + 1 + 1) vs (marksTo l a vs k) hv hm hd (positionsF vs l[k].symbols) _ hA8 (marksTo_len _ _ _ _) hvl hO8 (by omega) (fun i hi => positions_lt vs l[k].symbols i hi) (by
            intro x hx e
            have h1 := hN8 x hx
            have h2 := HB.out x (Or.inr e)
            have h3 := hA6.lt
            omega)).mono ?_
          rintro e w9 ⟨rfl, hA9, hk9⟩
          have hK9 := (hK6.trans hk8).ofP hk9 (fun x hx => (HB.out x (Or.inr hx)).1)
          go_wp2
          go_roundg (l.length - (k + 1))
          case measure => omega
          case rel => exact ⟨k + 1, by omega, rfl, by go_num, by rw [HT.out]; exact hA9, hK9⟩
    · have e : k = l.length := by omega
      subst e
      go_wp2_with (go_at_call 36; refine (count_any b o l H _ (by exact hr)).mono ?_; rintro e wc ⟨rfl, rfl⟩)
      go_ret
      exact ⟨w.heap.size + 1 + 1, hv, hm, rfl, hA, by omega, fun x hx => (HB.out x hx).1, hK⟩

end Go.Proofs.YtkancbaldeeijaaGreat
