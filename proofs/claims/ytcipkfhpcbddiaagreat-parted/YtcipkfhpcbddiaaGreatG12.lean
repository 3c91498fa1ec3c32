/- Our texts: Rec5, Ap1, Ap2, Ap3, Bag, RpR, Pf1. -/
import Derived.BigQuiet
import Derived.Test.YtcipkfhpcbddiaaGreatG10
import Derived.Test.YtcipkfhpcbddiaaGreatG11
/- Package frames: AllHypotheses. -/
namespace Go.Proofs.YtcipkfhpcbddiaaGreat
open Go.RowKit

theorem infoL : (Tryz.prog.info? 45).map (fun i => (i.zero, i.size, i.bytes)) = some (some (.slice none 0 0), 1, 24) := by kernel_rfl
theorem made_at (v : Value) (n i : Nat) (h : i < n) : (madeCells #[v] n)[i]? = some v := by
  simp [madeCells, h, Nat.mod_one]

def isAt (l : List St) (n : Nat) : Bool := match l[n]? with | some s => isA s.kind | none => false
theorem isAt_eq (l : List St) (n : Nat) (h : n < l.length) : isAt l n = isA l[n].kind := by
  unfold isAt; rw [List.getElem?_eq_getElem h]
/-- The mandatory hypotheses of each assertion below k; of the others none. -/
def hypsA (l : List St) (k n : Nat) : List Nat := if n < k ∧ isAt l n = true then hypsF l n else []
structure AllIs (w : World) (g : Nat) (l : List St) (k : Nat) (K : Nat → Hd) : Prop where
  arr : ∃ arr, w.heap[g]? = some (.cells arr 45 (0, 0)) ∧ arr.size = l.length ∧ ∀ n, n < l.length → arr[n]? = some (.slice (K n).ao (hypsA l k n).length (K n).cap)
  own : ∀ n, n < l.length → Owns w (K n) (rowN (hypsA l k n))
  off : ∀ n, (K n).blk ≠ some g
theorem AllIs.kept {w w' : World} {g : Nat} {l : List St} {k : Nat} {K : Nat → Hd} {S : List Nat} (h : AllIs w g l k K) (q : Kept S w w') (hg : g ∉ S) (hK : ∀ n x, (K n).blk = some x → x ∉ S) : AllIs w' g l k K := by
  obtain ⟨arr, h1, h2, h3⟩ := h.arr
  exact ⟨⟨arr, q.get h1 hg, h2, h3⟩, fun n hn => (h.own n hn).moved (fun x hx => q.block x ((h.own n hn).lt hx) (hK n x hx)), h.off⟩
theorem AllIs.still {w w' : World} {g : Nat} {l : List St} {k : Nat} {K : Nat → Hd} (h : AllIs w g l k K) (q : Kept [] w w') : AllIs w' g l k K := h.kept q (by simp) (by simp)
theorem AllIs.cell {w : World} {g : Nat} {l : List St} {k : Nat} {K : Nat → Hd} (h : AllIs w g l k K) (n : Nat) (hn : n < l.length) : w.cell? ⟨g, n, none⟩ = some (.slice (K n).ao (hypsA l k n).length (K n).cap) := by
  obtain ⟨arr, h1, h2, h3⟩ := h.arr
  rw [cell_of h1]; exact h3 n hn
theorem AllIs.free {w : World} {g : Nat} {l : List St} {k : Nat} {K : Nat → Hd} (h : AllIs w g l k K) (n : Nat) : w.frozen? ⟨g, n, none⟩ = false := by
  obtain ⟨arr, h1, h2, h3⟩ := h.arr
  exact free_of h1 n
theorem AllIs.lt {w : World} {g : Nat} {l : List St} {k : Nat} {K : Nat → Hd} (h : AllIs w g l k K) : g < w.heap.size := by
  obtain ⟨arr, h1, h2, h3⟩ := h.arr
  exact lt_of_get h1
theorem AllIs.skip {w : World} {g : Nat} {l : List St} {k : Nat} {K : Nat → Hd} (h : AllIs w g l k K) (hk : isAt l k = false) : AllIs w g l (k + 1) K := by
  have e : ∀ n, hypsA l (k + 1) n = hypsA l k n := by
    intro n
    unfold hypsA
    by_cases en : n = k
    · subst en; rw [if_neg (by rw [hk]; simp), if_neg (by rw [hk]; simp)]
    · have : (n < k + 1 ∧ isAt l n = true) ↔ (n < k ∧ isAt l n = true) := and_congr_left (fun _ => by omega)
      simp only [this]
  obtain ⟨arr, h1, h2, h3⟩ := h.arr
  exact ⟨⟨arr, h1, h2, fun n hn => by rw [e]; exact h3 n hn⟩, fun n hn => by rw [e]; exact h.own n hn, h.off⟩
theorem AllIs.store {w : World} {g : Nat} {l : List St} {k : Nat} {K : Nat → Hd} (h : AllIs w g l k K) (hk : isAt l k = true) (hkl : k < l.length) (hd : Hd) (o : Owns w hd (rowN (hypsF l k))) (hg : hd.blk ≠ some g) :
    AllIs (w.setCell ⟨g, k, none⟩ (.slice hd.ao (hypsF l k).length hd.cap)) g l (k + 1) (upd K k hd) := by
  have e : ∀ n, n ≠ k → hypsA l (k + 1) n = hypsA l k n := by
    intro n en
    unfold hypsA
    have : (n < k + 1 ∧ isAt l n = true) ↔ (n < k ∧ isAt l n = true) := and_congr_left (fun _ => by omega)
    simp only [this]
  have ek : hypsA l (k + 1) k = hypsF l k := by unfold hypsA; rw [if_pos ⟨by omega, hk⟩]
  obtain ⟨arr, h1, h2, h3⟩ := h.arr
  refine ⟨⟨_, block_setCell h1 _ _, by simpa using h2, ?_⟩, ?_, ?_⟩
  · intro n hn
    by_cases en : n = k
    · subst en
      rw [upd_same, ek]
      simp [h2, hn]
    · rw [upd_other _ _ _ _ en, e n en]
      rw [Array.getElem?_setIfInBounds_ne (by omega)]
      exact h3 n hn
  · intro n hn
    by_cases en : n = k
    · subst en
      rw [upd_same, ek]
      exact o.moved (fun x hx => Below.heap_setCell _ _ _ _ (by rintro rfl; exact hg hx))
    · rw [upd_other _ _ _ _ en, e n en]
      exact (h.own n hn).moved (fun x hx => Below.heap_setCell _ _ _ _ (by rintro rfl; exact h.off n hx))
  · intro n
    by_cases en : n = k
    · subst en; rw [upd_same]; exact hg
    · rw [upd_other _ _ _ _ en]; exact h.off n

set_option maxHeartbeats 2000000 in
set_option maxRecDepth 100000 in
theorem allHypotheses_any (b o : Nat) (l : List St) (H : Nat → Hd) (w : World) (h : RecAt w b o l H) (ok : RecOk l) :
    Calls Tryz.prog 52 #[.pointer (some ⟨b, o, none⟩)] w fun e w' => ∃ (g : Nat) (K : Nat → Hd), e = .returned (.slice (some ⟨g, 0, none⟩) l.length l.length) ∧ AllIs w' g l l.length K ∧ w.heap.size ≤ g ∧ (∀ n x, (K n).blk = some x → w.heap.size ≤ x) ∧ Kept [] w w' := by
  obtain ⟨i0, hi, hz0, hz1, hz2⟩ := info_parts infoL
  have hlen := ok.len
  have hbw := h.lt
  have m1 := fun w => run_make_row (P := Tryz.prog) w 116 45 i0 _ Tryz.underlying116 hi hz0 l.length 1 hz1 (by rw [hz2]; omega) (by omega)
  obtain ⟨mc, hmc⟩ : ∃ mc, mc = madeCells (Value.slice none 0 0).cells (l.length * 1) := ⟨_, rfl⟩
  rw [← hmc] at m1
  have A0 : Hid (AllIs (w.alloc (.cells mc 45)) w.heap.size l 0 noHd) := by
    refine ⟨⟨mc, heap_alloc_new _ _, by rw [hmc, size_madeCells]; omega, ?_⟩, ?_, fun n e => by simp [noHd, Hd.blk] at e⟩
    · intro n hn
      have e : hypsA l 0 n = [] := by unfold hypsA; rw [if_neg (by omega)]
      rw [e, hmc]
      exact made_at _ _ _ (by omega)
    · intro n hn
      have e : hypsA l 0 n = [] := by unfold hypsA; rw [if_neg (by omega)]
      rw [e]; exact World.ownsRow_nil _ _ _ _
  clear hmc
  go_enter Tryz.func52, Tryz.ntmps52
  go_wp2_with (go_at_call 45; refine (count_any b o l H _ (by exact h)).mono ?_; rintro e wc ⟨rfl, hwc⟩; rw [hwc])
  go_loopg [4] l.length (fun gk i wr => ∃ (k : Nat) (K : Nat → Hd), k ≤ l.length ∧ gk = l.length - k ∧ i = .int .i64 k ∧ AllIs wr w.heap.size l k K ∧ (∀ n x, (K n).blk = some x → w.heap.size ≤ x) ∧ Kept [] w wr)
  case atStart => exact ⟨0, noHd, by omega, by omega, rfl, A0.out, fun n x hx => by simp [noHd, Hd.blk] at hx, (Kept.refl _ _).alloc _⟩
  case round =>
    obtain ⟨k, K, hk, hg, rfl, hA, hN, hK⟩ := hrel
    have hr := h.still hK
    clear A0 m1
    by_cases hlt : k < l.length
    · have HI := (show Hid _ from isAt_eq l k hlt)
      cases ha : isA l[k].kind
      · have HS : Hid (AllIs wr w.heap.size l (k + 1) K) := hA.skip (by rw [HI.out, ha])
        clear HI
        go_wp2_with (first | (go_at_call 53; refine (statement_any b o k l H _ (by exact hr) hlt).mono ?_; rintro e w3 ⟨rfl, hk3⟩; unfold stVal) | (go_at_call 65; refine (isAssertion_any l[k].kind _ _ _ _ _ _ _ _).mono ?_; rintro e w4 ⟨rfl, hk4⟩))
        go_roundg (l.length - (k + 1))
        case measure => omega
        case rel => exact ⟨k + 1, K, by omega, rfl, by go_num, (HS.out.still hk3).still hk4, hN, (hK.trans hk3).trans hk4⟩
      · go_wp2_with (first | (go_at_call 53; refine (statement_any b o k l H _ (by exact hr) hlt).mono ?_; rintro e w3 ⟨rfl, hk3⟩; unfold stVal) | (go_at_call 65; refine (isAssertion_any l[k].kind _ _ _ _ _ _ _ _).mono ?_; rintro e w4 ⟨rfl, hk4⟩))
        have hk34 := hk3.trans hk4
        refine (hypotheses_any b o k l H _ (hr.still hk34) hlt ok).mono ?_
        rintro e w5 ⟨hd, rfl, hO5, hN5, hk5⟩
        have hA5 := (hA.still hk34).still hk5
        have hgl := (hA.still hk34).lt
        have hng : hd.blk ≠ some w.heap.size := fun e => by have := hN5 _ e; omega
        have HS := (show Hid _ from hA5.store (by rw [HI.out, ha]) hlt hd hO5 hng)
        have hK5 := (hK.trans hk34).trans hk5
        have hs3 := (hK.trans hk34).size
        have HN' : Hid (∀ n x, (upd K k hd n).blk = some x → w.heap.size ≤ x) := by
          intro n x hx
          by_cases e : n = k
          · subst e; rw [upd_same] at hx; have := hN5 x hx; omega
          · rw [upd_other _ _ _ _ e] at hx; exact hN n x hx
        have c1 := hA5.cell k hlt
        have hf := hA5.free
        clear hN5 hO5
        go_wp2
        go_roundg (l.length - (k + 1))
        case measure => omega
        case rel => exact ⟨k + 1, upd K k hd, by omega, rfl, by go_num, HS.out, HN'.out, hK5.setCell (Or.inr (Nat.le_refl _)) _⟩
    · have e : k = l.length := by omega
      subst e
      go_wp2
      go_ret
      exact ⟨w.heap.size, K, rfl, hA, Nat.le_refl _, hN, hK⟩

end Go.Proofs.YtcipkfhpcbddiaaGreat

/- Package apart: positions. -/
namespace Go.Proofs.YtcipkfhpcbddiaaGreat
open Go.RowKit

/-- Where in a list a word stands. -/
def posF (vs : List ByteArray) (x : ByteArray) : Option Nat := (List.range vs.length).find? (fun i => (vs.getD i ⟨#[]⟩).toList == x.toList)
def bools (l : List Bool) : List Value := l.map Value.bool
def rowBl (l : List Bool) : Row := ⟨4, 1, l.length, bools l⟩
/-- A table of variables: its own two lists. -/
structure ApIs (w : World) (tb : Nat) (vs : List ByteArray) (ms : List Bool) (hv hm : Hd) : Prop where
  blk : w.heap[tb]? = some (.cells #[.slice hv.ao vs.length hv.cap, .slice hm.ao ms.length hm.cap] 178 (0, 0))
  vars : Owns w hv (rowS vs)
  marks : Owns w hm (rowBl ms)
  o1 : hv.blk ≠ some tb
  o2 : hm.blk ≠ some tb
  o3 : hv.blk = none ∨ hv.blk ≠ hm.blk
theorem ApIs.cells {w : World} {tb : Nat} {vs : List ByteArray} {ms : List Bool} {hv hm : Hd} (h : ApIs w tb vs ms hv hm) : w.cell? ⟨tb, 0, none⟩ = some (.slice hv.ao vs.length hv.cap) ∧ w.cell? ⟨tb, 1, none⟩ = some (.slice hm.ao ms.length hm.cap) := by
  refine ⟨?_, ?_⟩ <;> (rw [cell_of h.blk]; rfl)
theorem ApIs.lt {w : World} {tb : Nat} {vs : List ByteArray} {ms : List Bool} {hv hm : Hd} (h : ApIs w tb vs ms hv hm) : tb < w.heap.size := lt_of_get h.blk
theorem ApIs.kept {w w' : World} {tb : Nat} {vs : List ByteArray} {ms : List Bool} {hv hm : Hd} {S : List Nat} (h : ApIs w tb vs ms hv hm) (k : Kept S w w') (h1 : tb ∉ S) (h2 : ∀ x, hv.blk = some x ∨ hm.blk = some x → x ∉ S) : ApIs w' tb vs ms hv hm :=
  ⟨k.get h.blk h1, h.vars.moved (fun x hx => k.block x (h.vars.lt hx) (h2 x (Or.inl hx))), h.marks.moved (fun x hx => k.block x (h.marks.lt hx) (h2 x (Or.inr hx))), h.o1, h.o2, h.o3⟩
theorem ApIs.still {w w' : World} {tb : Nat} {vs : List ByteArray} {ms : List Bool} {hv hm : Hd} (h : ApIs w tb vs ms hv hm) (k : Kept [] w w') : ApIs w' tb vs ms hv hm := h.kept k (by simp) (by simp)

set_option maxHeartbeats 800000 in
theorem position_any (tb : Nat) (vs : List ByteArray) (ms : List Bool) (hv hm : Hd) (x : ByteArray) (w : World) (h : ApIs w tb vs ms hv hm) (hl : vs.length ≤ 1073741824) :
    Calls Tryz.prog 125 #[.pointer (some ⟨tb, 0, none⟩), .string x] w fun e w' => e = .returned (.int .i64 (optV (posF vs x))) ∧ w' = w := by
  obtain ⟨c0, c1⟩ := h.cells
  go_enter Tryz.func125, Tryz.ntmps125
  go_wp2
  go_loopg [5] vs.length (fun g i wr => ∃ k : Nat, k ≤ vs.length ∧ g = vs.length - k ∧ i = .int .i64 k ∧ Hid (∀ i, i < k → ((vs.getD i ⟨#[]⟩).toList == x.toList) = false) ∧ wr = w)
  case atStart => exact ⟨0, by omega, by omega, rfl, fun i hi => by omega, rfl⟩
  case round =>
    obtain ⟨k, hk, hg, rfl, hall, rfl⟩ := hrel
    by_cases hlt : k < vs.length
    · rcases h.vars.ways with ⟨_, h0, _⟩ | ⟨g, cur, e1, -, e3, -⟩
      · have : vs.length = 0 := h0
        omega
      · have c2 := h.vars.cell e1 k (.string vs[k]) (strs_at vs k hlt)
        rw [e1] at c0
        have HG := (show Hid _ from getD_at vs k hlt)
        have hcp : vs.length ≤ hv.cap := e3
        generalize vs[k] = y at *
        cases hb : (y.toList == x.toList)
        · have HN : Hid (∀ i, i < k + 1 → ((vs.getD i ⟨#[]⟩).toList == x.toList) = false) := by
            intro i hi
            by_cases e : i = k
            · subst e; rw [HG.out]; exact hb
            · exact hall.out i (by omega)
          clear HG h
          go_wp2
          go_roundg (vs.length - (k + 1))
          case measure => omega
          case rel => exact ⟨k + 1, by omega, rfl, by go_num, HN, rfl⟩
        · have HF : Hid (posF vs x = some k) := range_hit hlt (by rw [HG.out]; exact hb) hall.out
          clear HG h
          go_wp2
          go_ret
          exact ⟨ret_int (by rw [HF.out]; rfl), rfl⟩
    · have HF : Hid (posF vs x = none) := range_none (fun i hi => hall.out i (by omega))
      clear h
      go_wp2
      go_ret
      exact ⟨ret_int (by rw [HF.out]; rfl), rfl⟩

/-- The positions of those words that stand in the list. -/
def positionsF (vs ws : List ByteArray) : List Nat := ws.filterMap (posF vs)
theorem positions_some (vs ws : List ByteArray) (k p : Nat) (h : k < ws.length) (hp : posF vs ws[k] = some p) : positionsF vs (ws.take (k + 1)) = positionsF vs (ws.take k) ++ [p] := by
  unfold positionsF; rw [take_snoc ws k h, List.filterMap_append]; simp [hp]
theorem positions_none (vs ws : List ByteArray) (k : Nat) (h : k < ws.length) (hp : posF vs ws[k] = none) : positionsF vs (ws.take (k + 1)) = positionsF vs (ws.take k) := by
  unfold positionsF; rw [take_snoc ws k h, List.filterMap_append]; simp [hp]
theorem positions_len (vs ws : List ByteArray) : (positionsF vs ws).length ≤ ws.length := List.length_filterMap_le _ _

set_option maxHeartbeats 1600000 in
set_option maxRecDepth 100000 in
theorem positions_any (tb : Nat) (vs : List ByteArray) (ms : List Bool) (hv hm hw : Hd) (ws : List ByteArray) (w : World) (h : ApIs w tb vs ms hv hm) (hl : vs.length ≤ 1073741824) (hvw : View w hw ws) (hwl : ws.length ≤ 1000000) :
    Calls Tryz.prog 107 #[.pointer (some ⟨tb, 0, none⟩), .slice hw.ao ws.length hw.cap] w fun e w' => ∃ hd : Hd, e = .returned (.slice hd.ao (positionsF vs ws).length hd.cap) ∧ Owns w' hd (rowN (positionsF vs ws)) ∧ (∀ x, hd.blk = some x → w.heap.size ≤ x) ∧ Kept [] w w' := by
  obtain ⟨i0, hi, hz0, hz1, hz2⟩ := info_parts infoN
  obtain ⟨ao, cap⟩ := hw
  rcases hvw with rfl | ⟨g, off, cur, t, e1, e2, e3, e4, e5⟩
  · clear hwl
    go_enter Tryz.func107, Tryz.ntmps107
    go_wp2
    refine wp_loop_rounds 1 ?_
    rw [rounds_succ]
    go_wp2
    go_ret
    exact ⟨⟨none, 0⟩, rfl, World.ownsRow_nil _ _ _ _, by intro x hx; simp [Hd.blk] at hx, Kept.refl _ _⟩
  simp only at e1
  subst e1
  go_enter Tryz.func107, Tryz.ntmps107
  go_wp2
  go_loopg [5, 6] ws.length (fun gk sv i wr => ∃ (k : Nat) (hd : Hd), k ≤ ws.length ∧ gk = ws.length - k ∧ i = .int .i64 k ∧ sv = .slice hd.ao (positionsF vs (ws.take k)).length hd.cap ∧ Owns wr hd (rowN (positionsF vs (ws.take k))) ∧ (∀ x, hd.blk = some x → w.heap.size ≤ x) ∧ Kept [] w wr)
  case atStart => exact ⟨0, ⟨none, 0⟩, by omega, by omega, rfl, rfl, World.ownsRow_nil _ _ _ _, by intro x hx; simp [Hd.blk] at hx, Kept.refl _ _⟩
  case round =>
    obtain ⟨k, hd, hk, hg, rfl, rfl, hO, hN, hK⟩ := hrel
    have hr := h.still hK
    have hlp := positions_len vs (ws.take k)
    have hlt' : (ws.take k).length ≤ k := by simp; omega
    by_cases hlt : k < ws.length
    · have c2 : wr.cell? ⟨g, off + k, none⟩ = some (.string ws[k]) := (cell_of (hK.get e2 (by simp)) (off + k)).trans (e3 k ws[k] (List.getElem?_eq_getElem hlt))
      · skip
        have PS := fun p => positions_some vs ws k p hlt
        have PN := positions_none vs ws k hlt
        have HPS := (show Hid _ from PS)
        have HPN := (show Hid _ from PN)
        have PA := position_any tb vs ms hv hm ws[k] wr hr hl
        have HPA := (show Hid _ from PA)
        clear PS PN PA e3
        generalize ws[k] = y at *
        rcases hp : posF vs y with _ | p
        · have HT := (show Hid _ from HPN.out hp)
          rw [hp] at HPA
          simp only [optV] at HPA
          clear HPS HPN
          go_wp2_with (go_at_call 125; refine Calls.mono HPA.out ?_; rintro e w3 ⟨rfl, rfl⟩)
          go_roundg (ws.length - (k + 1))
          case measure => omega
          case rel => exact ⟨k + 1, hd, by omega, rfl, by go_num, by rw [HT.out], by rw [HT.out]; exact hO, hN, hK⟩
        · have HT := (show Hid _ from HPS.out p hp)
          rw [hp] at HPA
          simp only [optV] at HPA
          have hO4 := hO.moved (fun x hx => ((Kept.refl [] wr).alloc (.cells #[.int .i64 p] 3)).block x (hO.lt hx) (by simp))
          clear HPS HPN
          go_wp2_with (first | (go_at_call 125; refine Calls.mono HPA.out ?_; rintro e w3 ⟨rfl, hw3⟩; rw [hw3]) | (at_builtin; refine wpList_append_row _ rfl (.tmp 22) (.tmp 24) 45 rfl i0 (.int .i64 0) 8 hd (rowN (positionsF vs (ws.take k))) Tryz.underlying45 hi hz0 hz1 hz2 rfl Nat.one_pos rfl (by exact hO4) ⟨_, 0, none⟩ 1 1 [.int .i64 p] rfl rfl ?d1 ?d2 Nat.one_pos ?d3 ?d4 ?_))
          case d1 => intro j u hj; match j, hj with | 0, hj => simp at hj; subst hj; simp [Addr.add]
          case d2 => intro u hu; simp at hu; subst hu; rfl
          case d3 => simp only [rowN]; unfold maxLen; omega
          case d4 => simp only [rowN]; omega
          intro g5 cap5 w5 hw5 hgr5 hfresh5
          rw [rowN_snoc (positionsF vs (ws.take k)) p, ← HT.out] at hw5
          have hK4 := hK.alloc (.cells #[.int .i64 p] 3)
          have hK5 := hK4.grown hgr5 hN
          have hg5 : w.heap.size ≤ g5 := by
            rcases hfresh5 with e | e
            · exact hN g5 e
            · have := hK4.size; simp at e this; omega
          have hEl : Hid ((rowN (positionsF vs (ws.take k))).n + 1 = (positionsF vs (ws.take (k + 1))).length) := by show _ = _; rw [HT.out]; simp [rowN]
          rw [hEl.out]
          clear hgr5 hfresh5 hO4
          go_wp2
          go_roundg (ws.length - (k + 1))
          case measure => omega
          case rel => exact ⟨k + 1, ⟨some ⟨g5, 0, none⟩, cap5⟩, by omega, rfl, by go_num, rfl, hw5, by intro x hx; simp [Hd.blk] at hx; omega, hK5⟩
    · have e : k = ws.length := by omega
      subst e
      rw [List.take_length] at hO ⊢
      go_wp2
      go_ret
      exact ⟨hd, rfl, hO, hN, hK⟩

end Go.Proofs.YtcipkfhpcbddiaaGreat

/- Package apart: marks. -/
namespace Go.Proofs.YtcipkfhpcbddiaaGreat
open Go.RowKit

def markRow (side mi : Nat) (mem : List Nat) (ms : List Bool) : List Bool := mem.foldl (fun ms mj => ms.set (mi * side + mj) true) ms
def markAllF (side : Nat) (mem : List Nat) (ms : List Bool) : List Bool := mem.foldl (fun ms mi => markRow side mi mem ms) ms
/-- The same as far as the first i, and of the next one the first j. -/
def markTo (side : Nat) (mem : List Nat) (ms : List Bool) (i j : Nat) : List Bool := markRow side (mem.getD i 0) (mem.take j) ((mem.take i).foldl (fun ms mi => markRow side mi mem ms) ms)
theorem markRow_len (side mi : Nat) (mem : List Nat) (ms : List Bool) : (markRow side mi mem ms).length = ms.length := by
  unfold markRow
  induction mem generalizing ms with
  | nil => rfl
  | cons a r ih => rw [List.foldl_cons, ih]; simp
theorem markFold_len (side : Nat) (mem r : List Nat) (ms : List Bool) : (r.foldl (fun ms mi => markRow side mi mem ms) ms).length = ms.length := by
  induction r generalizing ms with
  | nil => rfl
  | cons a r ih => rw [List.foldl_cons, ih, markRow_len]
theorem markTo_len (side : Nat) (mem : List Nat) (ms : List Bool) (i j : Nat) : (markTo side mem ms i j).length = ms.length := by
  unfold markTo; rw [markRow_len, markFold_len]
theorem markTo_step (side : Nat) (mem : List Nat) (ms : List Bool) (i j : Nat) (hj : j < mem.length) : markTo side mem ms i (j + 1) = (markTo side mem ms i j).set (mem.getD i 0 * side + mem[j]) true := by
  unfold markTo markRow
  rw [take_snoc mem j hj, List.foldl_append]; rfl
theorem markTo_row (side : Nat) (mem : List Nat) (ms : List Bool) (i : Nat) (hi : i < mem.length) : markTo side mem ms i mem.length = markTo side mem ms (i + 1) 0 := by
  have e : mem.getD i 0 = mem[i] := by rw [List.getD_eq_getElem?_getD, List.getElem?_eq_getElem hi]; rfl
  unfold markTo
  rw [List.take_length, take_snoc mem i hi, List.foldl_append, e]
  rfl
theorem markTo_end (side : Nat) (mem : List Nat) (ms : List Bool) : markTo side mem ms mem.length 0 = markAllF side mem ms := by
  unfold markTo markAllF; rw [List.take_length]; rfl

theorem bools_len (l : List Bool) : (bools l).length = l.length * 1 := by simp [bools]
theorem ApIs.mark {w : World} {tb : Nat} {vs : List ByteArray} {ms : List Bool} {hv hm : Hd} (h : ApIs w tb vs ms hv hm) (gm : Nat) (e : hm.ao = some ⟨gm, 0, none⟩) (i : Nat) (hi : i < ms.length) :
    ApIs (w.setCell ⟨gm, i, none⟩ (.bool true)) tb vs (ms.set i true) hv hm := by
  have hb : hm.blk = some gm := by unfold Hd.blk; rw [e]; rfl
  refine ⟨?_, ?_, ?_, h.o1, h.o2, h.o3⟩
  · rw [Below.heap_setCell _ _ _ _ (by rintro rfl; exact h.o2 hb), h.blk]; simp
  · refine h.vars.moved (fun x hx => Below.heap_setCell _ _ _ _ ?_)
    rintro rfl
    rcases h.o3 with a | a
    · rw [a] at hx; cases hx
    · exact a (hx.trans hb.symm)
  · rcases h.marks.ways with ⟨_, h0, _⟩ | ⟨g, cur, e1, e2, e3, e4, e5, e6⟩
    · have : ms.length = 0 := h0
      omega
    · have : g = gm := by rw [e] at e1; injection e1 with e1; injection e1 with e1; exact e1.symm
      subst this
      refine ⟨by simp only [rowBl]; rw [bools_len], Or.inr ⟨g, hm.cap, cur.setIfInBounds i (.bool true), ?_, Nat.zero_le _, block_setCell e2 _ _, ?_, e4, ?_, ?_⟩⟩
      · simp [rowBl, e]
      · simpa [rowBl] using e3
      · simpa [rowBl] using e5
      · have e6' : cur.toList.take (ms.length * 1) = bools ms := e6
        simp only [rowBl, List.length_set, Array.toList_setIfInBounds, List.take_set, e6']
        simp [bools, List.map_set]

theorem nums_at (l : List Nat) (k : Nat) (h : k < l.length) : (nums l)[k]? = some (.int .i64 l[k]) := by simp [nums, h]

set_option maxHeartbeats 2000000 in
set_option maxRecDepth 100000 in
theorem markAll_any (tb : Nat) (vs : List ByteArray) (ms : List Bool) (hv hm hw : Hd) (mem : List Nat) (w : World) (h : ApIs w tb vs ms hv hm) (hml : ms.length = vs.length * vs.length) (hvl : vs.length ≤ 10000) (hO : Owns w hw (rowN mem)) (hmm : mem.length ≤ 1000000)
    (hin : ∀ i (hi : i < mem.length), mem[i] < vs.length) (hne : ∀ x, hw.blk = some x → hm.blk ≠ some x) :
    Calls Tryz.prog 106 #[.pointer (some ⟨tb, 0, none⟩), .slice hw.ao mem.length hw.cap] w fun e w' => e = .returned (.tuple #[]) ∧ ApIs w' tb vs (markAllF vs.length mem ms) hv hm ∧ KeptP (fun k => hm.blk = some k) w w' := by
  obtain ⟨ao, cap⟩ := hw
  rcases hO.ways with ⟨e0, h0, _⟩ | ⟨g, cur, e1, e2, e3, e4, -⟩
  · have h0' : mem.length = 0 := h0
    have hl0 : mem = [] := List.eq_nil_of_length_eq_zero h0'
    subst hl0
    clear hO h0 h0' e0 hmm hin hne
    go_enter Tryz.func106, Tryz.ntmps106
    go_wp2
    refine wp_loop_rounds 1 ?_
    rw [rounds_succ]
    go_wp2
    go_end0
    exact ⟨rfl, h, KeptP.refl _ _⟩
  simp only at e1 e3 e4
  have hcp : mem.length ≤ cap := e3
  have e4' : cap ≤ 9223372036854775807 := by unfold maxLen at e4; exact e4
  subst e1
  have hgb : hm.blk ≠ some g := hne g rfl
  go_enter Tryz.func106, Tryz.ntmps106
  go_wp2
  go_loopg [4] mem.length (fun gk i wr => ∃ k : Nat, k ≤ mem.length ∧ gk = mem.length - k ∧ i = .int .i64 k ∧ ApIs wr tb vs (markTo vs.length mem ms k 0) hv hm ∧ KeptP (fun k => hm.blk = some k) w wr)
  case atStart => exact ⟨0, by omega, by omega, rfl, h, KeptP.refl _ _⟩
  case round =>
    obtain ⟨k, hk, hg, rfl, hA, hK⟩ := hrel
    by_cases hlt : k < mem.length
    · have HR := (show Hid _ from markTo_row vs.length mem ms k hlt)
      go_wp2_with fail
      go_loopg [5] mem.length (fun gk2 i2 wr2 => ∃ j : Nat, j ≤ mem.length ∧ gk2 = mem.length - j ∧ i2 = .int .i64 j ∧ ApIs wr2 tb vs (markTo vs.length mem ms k j) hv hm ∧ KeptP (fun k => hm.blk = some k) w wr2)
      case atStart => exact ⟨0, by omega, by omega, rfl, hA, hK⟩
      case round =>
        obtain ⟨j, hj, hg2, rfl, hA2, hK2⟩ := hrel
        clear hA hK
        by_cases hlj : j < mem.length
        · have hxk := hin k hlt
          have hxj := hin j hlj
          have hOw : Owns wr ⟨some ⟨g, 0, none⟩, cap⟩ (rowN mem) := hO.moved (fun x hx => hK2.block x (hO.lt hx) (fun e => hne x hx e))
          have p1 := hOw.cell rfl k (.int .i64 mem[k]) (nums_at mem k hlt)
          have p2 := hOw.cell rfl j (.int .i64 mem[j]) (nums_at mem j hlj)
          obtain ⟨c0, c1⟩ := hA2.cells
          rw [markTo_len] at c1
          have ST := markTo_step vs.length mem ms k j hlj
          have eg : mem.getD k 0 = mem[k] := by rw [List.getD_eq_getElem?_getD, List.getElem?_eq_getElem hlt]; rfl
          rw [eg] at ST
          have hb1 : mem[k] * vs.length + mem[j] < ms.length := by
            rw [hml]
            have : (mem[k] + 1) * vs.length ≤ vs.length * vs.length := Nat.mul_le_mul_right _ hxk
            rw [Nat.add_mul] at this
            omega
          have hb2 : mem[k] * vs.length ≤ 10000 * 10000 := Nat.mul_le_mul (by omega) hvl
          have HMK := (show Hid _ from fun gm e => hA2.mark gm e (mem[k] * vs.length + mem[j]) (by rw [markTo_len]; exact hb1))
          have HST := (show Hid _ from ST)
          rcases hA2.marks.ways with ⟨_, h0, _⟩ | ⟨gm, curm, em, em2, em3, -⟩
          · have : (markTo vs.length mem ms k j).length = 0 := h0
            rw [markTo_len] at this
            omega
          · have em3' : ms.length ≤ hm.cap := by have : (markTo vs.length mem ms k j).length ≤ hm.cap := em3; rw [markTo_len] at this; exact this
            have hfm := free_of em2
            have hgm := lt_of_get em2
            have p3 := hA2.marks.cell em (mem[k] * vs.length + mem[j]) (.bool ((markTo vs.length mem ms k j)[mem[k] * vs.length + mem[j]]'(by rw [markTo_len]; exact hb1))) (by simp [rowBl, bools, markTo_len, hb1])
            rw [em] at c1
            clear ST em2 em3 hOw
            generalize (markTo vs.length mem ms k j)[mem[k] * vs.length + mem[j]]'(by rw [markTo_len]; exact hb1) = old at *
            generalize hx : mem[k] = x at *
            generalize hy : mem[j] = y at *
            obtain ⟨q, hq⟩ : ∃ q, x * vs.length = q := ⟨_, rfl⟩
            have hq' : (x : Int) * (vs.length : Int) = (q : Int) := by rw [← hq]; simp
            rw [hq] at hb1 hb2 p3 HMK HST
            clear hx hy eg
            go_wp2_with fail
            go_quiet (fail)
            go_wp2
            go_roundg (mem.length - (j + 1))
            case measure => omega
            case rel => exact ⟨j + 1, by omega, rfl, by go_num, by rw [HST.out]; exact (HMK.out gm em).still ((Kept.refl [] _).drewN nq), (hK2.still ((Kept.refl [] _).drewN nq)).setCell (Or.inl (by unfold Hd.blk; rw [em]; rfl)) _⟩
        · have e : j = mem.length := by omega
          subst e
          rw [HR.out] at hA2
          go_wp2
          go_roundg (mem.length - (k + 1))
          case measure => omega
          case rel => exact ⟨k + 1, by omega, rfl, by go_num, hA2, hK2⟩
    · have e : k = mem.length := by omega
      subst e
      rw [markTo_end] at hA
      go_wp2
      go_end0
      exact ⟨rfl, hA, hK⟩

end Go.Proofs.YtcipkfhpcbddiaaGreat

/- Package apart: Apart, At. -/
namespace Go.Proofs.YtcipkfhpcbddiaaGreat
open Go.RowKit

/-- Are these the positions of two different variables that are marked? -/
def apartF (side : Nat) (ms : List Bool) (i j : Nat) : Bool := !(i == j) && ms.getD (i * side + j) false

theorem square_lt {i j n : Nat} (hi : i < n) (hj : j < n) : i * n + j < n * n := by
  have : (i + 1) * n ≤ n * n := Nat.mul_le_mul_right _ hi
  rw [Nat.add_mul] at this
  omega

set_option maxHeartbeats 1600000 in
theorem apart_any (tb : Nat) (vs : List ByteArray) (ms : List Bool) (hv hm : Hd) (i j : Nat) (w : World) (h : ApIs w tb vs ms hv hm) (hml : ms.length = vs.length * vs.length) (hvl : vs.length ≤ 10000) (hi : i < vs.length) (hj : j < vs.length) :
    Calls Tryz.prog 90 #[.pointer (some ⟨tb, 0, none⟩), .int .i64 i, .int .i64 j] w fun e w' => e = .returned (.bool (apartF vs.length ms i j)) ∧ w' = w := by
  obtain ⟨c0, c1⟩ := h.cells
  have hb1 : i * vs.length + j < ms.length := by rw [hml]; exact square_lt hi hj
  have hb2 : i * vs.length ≤ 10000 * 10000 := Nat.mul_le_mul (by omega) hvl
  rcases h.marks.ways with ⟨_, h0, _⟩ | ⟨gm, curm, em, em2, em3, -⟩
  · have : ms.length = 0 := h0
    omega
  · have em3' : ms.length ≤ hm.cap := em3
    have p3 := h.marks.cell em (i * vs.length + j) (.bool ms[i * vs.length + j]) (by simp [rowBl, bools, hb1])
    have eg : ms.getD (i * vs.length + j) false = ms[i * vs.length + j] := by rw [List.getD_eq_getElem?_getD, List.getElem?_eq_getElem hb1]; rfl
    have HA : Hid (apartF vs.length ms i j = (!(i == j) && ms[i * vs.length + j])) := by show _ = _; unfold apartF; rw [eg]
    rw [em] at c1
    generalize ms[i * vs.length + j] = old at *
    obtain ⟨q, hq⟩ : ∃ q, i * vs.length = q := ⟨_, rfl⟩
    have hq' : (i : Int) * (vs.length : Int) = (q : Int) := by rw [← hq]; simp
    rw [hq] at hb1 hb2 p3
    clear eg em2 em3 h
    by_cases hij : i = j
    · have hd : ((i : Int) != (j : Int)) = false := by simp [hij]
      have HT : Hid (apartF vs.length ms i j = false) := by show _ = _; rw [HA.out]; simp [hij]
      clear HA
      go_enter Tryz.func90, Tryz.ntmps90
      go_wp2
      go_ret
      exact ⟨ret_bool HT.out.symm, rfl⟩
    · have hd : ((i : Int) != (j : Int)) = true := by simp; omega
      have HT : Hid (apartF vs.length ms i j = old) := by show _ = _; rw [HA.out]; simp [hij]
      clear HA
      go_enter Tryz.func90, Tryz.ntmps90
      go_wp2
      go_ret
      exact ⟨ret_bool HT.out.symm, rfl⟩

def disjF (l : List St) (a n : Nat) : Bool := match l[n]? with | some s => (s.kind == 1) && heldF l n a | none => false
theorem disj_eq (l : List St) (a n : Nat) (h : n < l.length) : disjF l a n = ((l[n].kind == 1) && heldF l n a) := by
  unfold disjF; rw [List.getElem?_eq_getElem h]
def marksTo (l : List St) (a : Nat) (vs : List ByteArray) : Nat → List Bool
  | 0 => List.replicate (vs.length * vs.length) false
  | k + 1 => if disjF l a k = true then markAllF vs.length (positionsF vs (symsAt l k)) (marksTo l a vs k) else marksTo l a vs k
/-- Which two of the variables stand together in a $d that is active at a. -/
def marksF (l : List St) (a : Nat) (vs : List ByteArray) : List Bool := marksTo l a vs l.length
theorem marksTo_len (l : List St) (a : Nat) (vs : List ByteArray) (k : Nat) : (marksTo l a vs k).length = vs.length * vs.length := by
  induction k with
  | zero => simp [marksTo]
  | succ k ih =>
    rw [marksTo]
    split
    · unfold markAllF; rw [markFold_len, ih]
    · exact ih
theorem posF_lt {vs : List ByteArray} {x : ByteArray} {p : Nat} (h : posF vs x = some p) : p < vs.length := by
  have := List.mem_of_find?_eq_some h
  simpa using this
theorem positions_lt (vs ws : List ByteArray) (i : Nat) (h : i < (positionsF vs ws).length) : (positionsF vs ws)[i] < vs.length := by
  have hm := List.getElem_mem h
  unfold positionsF at hm
  rw [List.mem_filterMap] at hm
  obtain ⟨x, _, hx⟩ := hm
  exact posF_lt hx

theorem infoBl : (Tryz.prog.info? 4).map (fun i => (i.zero, i.size, i.bytes)) = some (some (.bool false), 1, 1) := by kernel_rfl
theorem made_all (v : Value) (n : Nat) : madeCells #[v] n = (List.replicate n v).toArray := by
  apply Array.ext
  · rw [size_madeCells]; simp
  · intro i h1 h2
    have h : i < n := by rw [size_madeCells] at h1; exact h1
    have := made_at v n i h
    rw [Array.getElem?_eq_getElem h1] at this
    simp at this ⊢
    exact this
theorem build_tab (w : World) (a1 a2 : Option Addr) (n1 c1 n2 c2 : Nat) : (Instr.build 178 #[(0, .slice a1 n1 c1), (1, .slice a2 n2 c2)]).run Tryz.prog w = .ok (.agg #[.slice a1 n1 c1, .slice a2 n2 c2]) w :=
  run_build w 178 _ _ (by kernel_rfl)
attribute [local go_sem] build_tab

theorem Kept.ofP {P : Nat → Prop} {w wr w1 : World} (K : Kept [] w wr) (g : KeptP P wr w1) (hb : ∀ k, P k → w.heap.size ≤ k) : Kept [] w w1 :=
  ⟨g.os.trans K.os, g.tape.trans K.tape, g.output.trans K.output, Nat.le_trans K.size g.size, fun k hk _ => (g.block k (Nat.lt_of_lt_of_le hk K.size) (fun e => by have := hb k e; omega)).trans (K.block k hk (by simp))⟩

set_option maxHeartbeats 2000000 in
set_option maxRecDepth 100000 in
theorem at_any (b o a : Nat) (l : List St) (H : Nat → Hd) (hw : Hd) (vs : List ByteArray) (w : World) (h : RecAt w b o l H) (ok : RecOk l) (hO : Owns w hw (rowS vs)) (hvl : vs.length ≤ 10000) :
    Calls Tryz.prog 85 #[.pointer (some ⟨b, o, none⟩), .int .i64 a, .slice hw.ao vs.length hw.cap] w fun e w' => ∃ (tb : Nat) (hv hm : Hd), e = .returned (.pointer (some ⟨tb, 0, none⟩)) ∧ ApIs w' tb vs (marksF l a vs) hv hm ∧ w.heap.size ≤ tb ∧ (∀ x, hv.blk = some x ∨ hm.blk = some x → w.heap.size ≤ x) ∧ Kept [] w w' := by
  obtain ⟨i0, hi, hz0, hz1, hz2⟩ := info_parts infoS
  obtain ⟨i1, hi1, hy0, hy1, hy2⟩ := info_parts infoBl
  have hlen := ok.len
  have hbw := h.lt
  obtain ⟨q, hq⟩ : ∃ q, vs.length * vs.length = q := ⟨_, rfl⟩
  have hq' : (vs.length : Int) * (vs.length : Int) = (q : Int) := by rw [← hq]; simp
  have hql : q ≤ 10000 * 10000 := by rw [← hq]; exact Nat.mul_le_mul hvl hvl
  have m1 := fun w => run_make_row (P := Tryz.prog) w 22 9 i0 _ Tryz.underlying22 hi hz0 vs.length 1 hz1 (by rw [hz2]; omega) (by omega)
  have m2 := fun w => run_make_row (P := Tryz.prog) w 176 4 i1 _ Tryz.underlying176 hi1 hy0 q 1 hy1 (by rw [hy2]; omega) (by omega)
  obtain ⟨mc1, hmc1⟩ : ∃ mc, mc = madeCells (Value.string ⟨#[]⟩).cells (vs.length * 1) := ⟨_, rfl⟩
  obtain ⟨mc2, hmc2⟩ : ∃ mc, mc = madeCells (Value.bool false).cells (q * 1) := ⟨_, rfl⟩
  have z1 : mc1.size = vs.length * 1 := by rw [hmc1, size_madeCells]
  have HZ2 : Hid (mc2 = (bools (marksTo l a vs 0)).toArray) := by
    show _ = _
    rw [hmc2, Nat.mul_one, ← hq]
    have : (Value.bool false).cells = #[.bool false] := rfl
    rw [this, made_all]
    simp [marksTo, bools]
  rw [← hmc1] at m1
  rw [← hmc2] at m2
  clear hmc1 hmc2
  have K2 : Kept [] w (w.alloc (.cells mc1 9)) := (Kept.refl [] _).alloc _
  have Hsz1 : Hid ((Tryz.prog.info? (rowS vs).e).map (·.size) = some (rowS vs).size) := by show _ = _; simp [rowS, hi, hz1]
  obtain ⟨w3, cp1, hg3, hk3, hz3⟩ := copy_full (P := Tryz.prog) (w.alloc (.cells mc1 9)) 22 22 3 w.heap.size vs.length hw (rowS vs) mc1 9 Tryz.underlying22 Hsz1.out (heap_alloc_new _ _) (hO.moved (fun x hx => K2.block x (hO.lt hx) (by simp))) z1 (strs_one _)
  simp only [rowS] at cp1 hg3
  have hz3' : w3.heap.size = w.heap.size + 1 := by rw [hz3]; simp
  have K3 : Kept [] w w3 := ((K2.mono (S' := [w.heap.size]) (by simp)).trans hk3).mono (by simp)
  obtain ⟨W4, hW4⟩ : ∃ W4, W4 = (w3.alloc (.cells mc2 4)).alloc (.cells #[.slice (some ⟨w.heap.size, 0, none⟩) vs.length vs.length, .slice (some ⟨w3.heap.size, 0, none⟩) q q] 178) := ⟨_, rfl⟩
  have K4 : Kept [] w W4 := by rw [hW4]; exact (K3.alloc _).alloc _
  have hq0 : Hid (q = (marksTo l a vs 0).length) := by show _ = _; rw [marksTo_len, hq]
  have A4 : ApIs W4 (w3.heap.size + 1) vs (marksTo l a vs 0) ⟨some ⟨w.heap.size, 0, none⟩, vs.length⟩ ⟨some ⟨w3.heap.size, 0, none⟩, q⟩ := by
    refine ⟨?_, ?_, ?_, ?_, ?_, ?_⟩
    · rw [hW4, ← hq0.out]
      have := heap_alloc_new (w3.alloc (.cells mc2 4)) (.cells #[.slice (some ⟨w.heap.size, 0, none⟩) vs.length vs.length, .slice (some ⟨w3.heap.size, 0, none⟩) q q] 178)
      simpa using this
    · refine Owns.made (r := rowS vs) ?_ (strs_len _) (by simp only [rowS]; unfold maxLen; omega)
      rw [hW4]; exact (((Kept.refl [] _).alloc _).alloc _).get hg3 (by simp)
    · have e : (⟨some ⟨w3.heap.size, 0, none⟩, q⟩ : Hd) = ⟨some ⟨w3.heap.size, 0, none⟩, (rowBl (marksTo l a vs 0)).n⟩ := by rw [hq0.out]; rfl
      rw [e]
      refine Owns.made (r := rowBl (marksTo l a vs 0)) ?_ (bools_len _) (by simp only [rowBl]; rw [← hq0.out]; unfold maxLen; omega)
      rw [hW4]
      have := ((Kept.refl [] (w3.alloc (.cells mc2 4))).alloc (.cells #[.slice (some ⟨w.heap.size, 0, none⟩) vs.length vs.length, .slice (some ⟨w3.heap.size, 0, none⟩) q q] 178)).get (heap_alloc_new w3 (.cells mc2 4)) (by simp)
      rw [this, HZ2.out]; rfl
    · intro e; simp [Hd.blk] at e; omega
    · intro e; simp [Hd.blk] at e
    · right; intro e; simp [Hd.blk] at e; omega
  have HW4 := (show Hid _ from hW4.symm)
  rw [hz3'] at HW4 A4
  clear hW4 hk3 hg3 HZ2 K2 hO Hsz1 z1 hz3
  obtain ⟨hv, hhv⟩ : ∃ hv : Hd, hv = ⟨some ⟨w.heap.size, 0, none⟩, vs.length⟩ := ⟨_, rfl⟩
  obtain ⟨hm, hhm⟩ : ∃ hm : Hd, hm = ⟨some ⟨w.heap.size + 1, 0, none⟩, q⟩ := ⟨_, rfl⟩
  rw [← hhv, ← hhm] at A4
  have HB : Hid (∀ x, hv.blk = some x ∨ hm.blk = some x → w.heap.size ≤ x ∧ x ≤ w.heap.size + 1) := by
    intro x hx
    rw [hhv, hhm] at hx
    simp [Hd.blk] at hx
    omega
  clear hhv hhm
  go_enter Tryz.func85, Tryz.ntmps85
  go_upto_region 4 with fail
  rw [HW4.out]
  clear HW4 m1 m2 cp1 K3 hz3'
  go_wp2
  go_loopg [9] l.length (fun gk i wr => ∃ k : Nat, k ≤ l.length ∧ gk = l.length - k ∧ i = .int .i64 k ∧ ApIs wr (w.heap.size + 1 + 1) vs (marksTo l a vs k) hv hm ∧ Kept [] w wr)
  case atStart => exact ⟨0, by omega, by omega, rfl, A4, K4⟩
  case round =>
    obtain ⟨k, hk, hg, rfl, hA, hK⟩ := hrel
    have hr := h.still hK
    have hal := hA.lt
    clear A4 K4
    by_cases hlt : k < l.length
    · have HD := (show Hid _ from disj_eq l a k hlt)
      have hsk := ok.syms k hlt
      have hpk := ok.pos k hlt
      have SY : Hid (symsAt l k = l[k].symbols) := symsAt_eq l k hlt
      have HU : Hid (marksTo l a vs (k + 1) = if disjF l a k = true then markAllF vs.length (positionsF vs (symsAt l k)) (marksTo l a vs k) else marksTo l a vs k) := rfl
      cases hkd : (l[k].kind == 1)
      · have HT : Hid (marksTo l a vs (k + 1) = marksTo l a vs k) := by show _ = _; rw [HU.out, HD.out, hkd]; simp
        clear HD HU SY
        go_wp2_with (first | (go_at_call 45; refine (count_any b o l H _ (by exact hr)).mono ?_; rintro e wc ⟨rfl, rfl⟩) | (go_at_call 53; refine (statement_any b o k l H _ (by exact hr) hlt).mono ?_; rintro e w5 ⟨rfl, hk5⟩; unfold stVal))
        go_roundg (l.length - (k + 1))
        case measure => omega
        case rel => exact ⟨k + 1, by omega, rfl, by go_num, by rw [HT.out]; exact (hA.still hk5).still ((Kept.refl [] _).alloc _), (hK.trans hk5).alloc _⟩
      · go_wp2_with (first | (go_at_call 45; refine (count_any b o l H _ (by exact hr)).mono ?_; rintro e wc ⟨rfl, hwc⟩; rw [hwc]) | (go_at_call 53; refine (statement_any b o k l H _ (by exact hr) hlt).mono ?_; rintro e w5 ⟨rfl, hk5⟩; unfold stVal))
        obtain ⟨W6, hW6⟩ : ∃ W6, W6 = w5.alloc (.cells #[.int .i64 l[k].kind, .string l[k].label, .slice (H (10 + 2 * k)).ao l[k].symbols.length (H (10 + 2 * k)).cap, .slice (H (11 + 2 * k)).ao l[k].proof.length (H (11 + 2 * k)).cap, .string l[k].fin.file, .int .i64 l[k].fin.line, .int .i64 l[k].fin.col, .int .i64 l[k].til] 119) := ⟨_, rfl⟩
        rw [← hW6]
        have k6 : Kept [] wr W6 := by rw [hW6]; exact hk5.alloc _
        have B6 : W6.heap[w5.heap.size]? = some (.cells #[.int .i64 l[k].kind, .string l[k].label, .slice (H (10 + 2 * k)).ao l[k].symbols.length (H (10 + 2 * k)).cap, .slice (H (11 + 2 * k)).ao l[k].proof.length (H (11 + 2 * k)).cap, .string l[k].fin.file, .int .i64 l[k].fin.line, .int .i64 l[k].fin.col, .int .i64 l[k].til] 119 (0, 0)) := by rw [hW6]; exact heap_alloc_new _ _
        have q2 : W6.cell? ⟨w5.heap.size, 2, none⟩ = some (.slice (H (10 + 2 * k)).ao l[k].symbols.length (H (10 + 2 * k)).cap) := by rw [cell_of B6]; rfl
        have hr6 := hr.still k6
        have hA6 := hA.still k6
        have hK6 := hK.trans k6
        have hV6 := (hr6.sts.syms k l[k] (List.getElem?_eq_getElem hlt)).view
        clear hW6 hk5 k6 B6 hr hA hK
        cases hh : heldF l k a
        · have HT : Hid (marksTo l a vs (k + 1) = marksTo l a vs k) := by show _ = _; rw [HU.out, HD.out, hh]; simp
          clear HD HU SY
          go_wp2_with (go_at_call 80; refine (holds_any b o k a l H _ (by exact hr6) hlt).mono ?_; rintro e w7 ⟨rfl, rfl⟩)
          go_roundg (l.length - (k + 1))
          case measure => omega
          case rel => exact ⟨k + 1, by omega, rfl, by go_num, by rw [HT.out]; exact hA6, hK6⟩
        · have HT : Hid (marksTo l a vs (k + 1) = markAllF vs.length (positionsF vs l[k].symbols) (marksTo l a vs k)) := by show _ = _; rw [HU.out, HD.out, hkd, hh, SY.out]; simp
          clear HD HU SY
          go_wp2_with (first | (go_at_call 80; refine (holds_any b o k a l H _ (by exact hr6) hlt).mono ?_; rintro e w7 ⟨rfl, hw7⟩; rw [hw7]) | (go_at_call 107; refine (positions_any (w.heap.size + 1 + 1) vs (marksTo l a vs k) hv hm (H (10 + 2 * k)) l[k].symbols _ (by exact hA6) (by omega) (by exact hV6) (by omega)).mono ?_; rintro e w8 ⟨hd, rfl, hO8, hN8, hk8⟩))
          have hA8 := hA6.still hk8
          have hpl := positions_len vs l[k].symbols
          refine (markAll_any (w.heap.size + 1 + 1) vs (marksTo l a vs k) hv hm hd (positionsF vs l[k].symbols) _ hA8 (marksTo_len _ _ _ _) hvl hO8 (by omega) (fun i hi => positions_lt vs l[k].symbols i hi) (by
            intro x hx e
            have h1 := hN8 x hx
            have h2 := HB.out x (Or.inr e)
            have h3 := hA6.lt
            omega)).mono ?_
          rintro e w9 ⟨rfl, hA9, hk9⟩
          have hK9 := (hK6.trans hk8).ofP hk9 (fun x hx => (HB.out x (Or.inr hx)).1)
          go_wp2
          go_roundg (l.length - (k + 1))
          case measure => omega
          case rel => exact ⟨k + 1, by omega, rfl, by go_num, by rw [HT.out]; exact hA9, hK9⟩
    · have e : k = l.length := by omega
      subst e
      go_wp2_with (go_at_call 45; refine (count_any b o l H _ (by exact hr)).mono ?_; rintro e wc ⟨rfl, rfl⟩)
      go_ret
      exact ⟨w.heap.size + 1 + 1, hv, hm, rfl, hA, by omega, fun x hx => (HB.out x hx).1, hK⟩

end Go.Proofs.YtcipkfhpcbddiaaGreat

/- A variable with several slices of its own in it: what stays, what a store leaves. -/
namespace Go.Proofs.YtcipkfhpcbddiaaGreat
open Go.RowKit

structure BagIs (w : World) (b t : Nat) (cs : List Value) (rows : Nat → Row) (H : Nat → Hd) : Prop where
  blk : w.heap[b]? = some (.cells cs.toArray t (0, 0))
  own : ∀ i, Owns w (H i) (rows i)
  apart : ∀ i j, i ≠ j → (H i).blk = none ∨ (H i).blk ≠ (H j).blk
  off : ∀ i, (H i).blk ≠ some b
theorem BagIs.lt {w : World} {b t : Nat} {cs : List Value} {rows : Nat → Row} {H : Nat → Hd} (h : BagIs w b t cs rows H) : b < w.heap.size := lt_of_get h.blk
theorem BagIs.inlt {w : World} {b t : Nat} {cs : List Value} {rows : Nat → Row} {H : Nat → Hd} (h : BagIs w b t cs rows H) {k : Nat} (hk : InH H k) : k < w.heap.size := by
  obtain ⟨i, hi⟩ := hk; exact (h.own i).lt hi
theorem BagIs.free {w : World} {b t : Nat} {cs : List Value} {rows : Nat → Row} {H : Nat → Hd} (h : BagIs w b t cs rows H) (i : Nat) : w.frozen? ⟨b, i, none⟩ = false := free_of h.blk i
theorem BagIs.cell {w : World} {b t : Nat} {cs : List Value} {rows : Nat → Row} {H : Nat → Hd} (h : BagIs w b t cs rows H) (i : Nat) : w.cell? ⟨b, i, none⟩ = cs[i]? := by rw [cell_of h.blk]; simp
theorem BagIs.keptP {w w' : World} {b t : Nat} {cs : List Value} {rows : Nat → Row} {H : Nat → Hd} {P : Nat → Prop} (h : BagIs w b t cs rows H) (hk : KeptP P w w') (hb : ¬ P b) (hs : ∀ k, InH H k → ¬ P k) : BagIs w' b t cs rows H :=
  ⟨hk.get h.blk hb, fun i => (h.own i).moved (fun k hk' => hk.block k ((h.own i).lt hk') (hs k ⟨i, hk'⟩)), h.apart, h.off⟩
theorem BagIs.kept {w w' : World} {b t : Nat} {cs : List Value} {rows : Nat → Row} {H : Nat → Hd} {S : List Nat} (h : BagIs w b t cs rows H) (hk : Kept S w w') (hb : b ∉ S) (hs : ∀ k, InH H k → k ∉ S) : BagIs w' b t cs rows H :=
  h.keptP (hk.toP (P := (· ∈ S)) (fun _ hm _ => hm)) hb hs
theorem BagIs.still {w w' : World} {b t : Nat} {cs : List Value} {rows : Nat → Row} {H : Nat → Hd} (h : BagIs w b t cs rows H) (hk : Kept [] w w') : BagIs w' b t cs rows H := h.kept hk (by simp) (by simp)

theorem BagIs.put {w w1 : World} {b t : Nat} {cs : List Value} {rows rows' : Nat → Row} {H : Nat → Hd} (h : BagIs w b t cs rows H) (c i : Nat) (h' : Hd)
    (o1 : Owns w1 h' (rows' i)) (hg : w.grownBy w1 (H i).blk)
    (hf : h'.blk = none ∨ h'.blk = (H i).blk ∨ ∃ g, h'.blk = some g ∧ w.heap.size ≤ g) (hrow : ∀ j, j ≠ i → rows' j = rows j) (u : Value) :
    BagIs (w1.setCell ⟨b, c, none⟩ u) b t (cs.set c u) rows' (upd H i h') ∧ Turned b w H (w1.setCell ⟨b, c, none⟩ u) (upd H i h') := by
  have hb := h.lt
  have hb1 : w1.heap[b]? = some (.cells cs.toArray t (0, 0)) := (hg.block b hb (fun e => h.off i e.symm)).trans h.blk
  have hoff : ∀ j, (upd H i h' j).blk ≠ some b := by
    intro j
    by_cases e : j = i
    · subst e; rw [upd_same]; intro hx
      rcases hf with hf | hf | ⟨g, hf, hg'⟩
      · rw [hf] at hx; cases hx
      · exact h.off j (hf ▸ hx)
      · rw [hf] at hx; cases hx; omega
    · rw [upd_other _ _ _ _ e]; exact h.off j
  refine ⟨⟨?_, ?_, ?_, hoff⟩, ⟨hg.os, hg.tape, hg.output, by have := hg.size; simp [World.setCell]; omega, ?_⟩, ?_⟩
  · rw [block_setCell hb1, List.setIfInBounds_toArray]
  · intro j
    have q : Owns w1 (upd H i h' j) (rows' j) := by
      by_cases e : j = i
      · subst e; rw [upd_same]; exact o1
      · rw [upd_other _ _ _ _ e, hrow j e]
        refine (h.own j).moved (fun k hk => hg.block k ((h.own j).lt hk) ?_)
        intro ek
        rcases h.apart j i e with a | a
        · rw [a] at hk; cases hk
        · exact a (hk.trans ek)
    refine q.moved (fun k hk => Below.heap_setCell _ _ _ _ ?_)
    rintro rfl
    exact hoff j hk
  · intro j l hne
    by_cases e : j = i
    · subst e
      rw [upd_same, upd_other _ _ _ _ (fun e => hne e.symm)]
      rcases hf with hf | hf | ⟨g, hf, hg'⟩
      · exact Or.inl hf
      · rw [hf]; exact h.apart j l hne
      · right; rw [hf]; intro ek; have := (h.own l).lt ek.symm; omega
    · rw [upd_other _ _ _ _ e]
      by_cases e2 : l = i
      · subst e2
        rw [upd_same]
        rcases hf with hf | hf | ⟨g, hf, hg'⟩
        · rw [hf]; cases (H j).blk <;> simp
        · rw [hf]; exact h.apart j l hne
        · cases hx : (H j).blk with
          | none => exact Or.inl rfl
          | some k => right; rw [hf]; intro ek; cases ek; have := (h.own j).lt hx; omega
      · rw [upd_other _ _ _ _ e2]; exact h.apart j l hne
  · intro k hk hn
    rw [Below.heap_setCell _ _ _ _ (fun e => hn (Or.inl e))]
    exact hg.block k hk (fun e => hn (Or.inr ⟨i, e.symm⟩))
  · intro k hk
    obtain ⟨j, e⟩ := hk
    by_cases ei : j = i
    · subst ei
      rw [upd_same] at e
      rcases hf with hf | hf | ⟨g, hf, hg'⟩
      · rw [hf] at e; cases e
      · exact Or.inl ⟨j, hf ▸ e⟩
      · rw [hf] at e; cases e; exact Or.inr hg'
    · rw [upd_other _ _ _ _ ei] at e
      exact Or.inl ⟨j, e⟩
theorem BagIs.set {w : World} {b t : Nat} {cs : List Value} {rows : Nat → Row} {H : Nat → Hd} (h : BagIs w b t cs rows H) (c : Nat) (u : Value) :
    BagIs (w.setCell ⟨b, c, none⟩ u) b t (cs.set c u) rows H ∧ Turned b w H (w.setCell ⟨b, c, none⟩ u) H := by
  refine ⟨⟨?_, ?_, h.apart, h.off⟩, (KeptP.refl _ _).setCell (Or.inl (Or.inl rfl)) _, fun _ hk => Or.inl hk⟩
  · rw [block_setCell h.blk, List.setIfInBounds_toArray]
  · intro j
    refine (h.own j).moved (fun k hk => Below.heap_setCell _ _ _ _ ?_)
    rintro rfl
    exact h.off j hk
/-- Behind an append to the slice of slot i. -/
theorem BagIs.app {w w1 : World} {b t : Nat} {cs cs' : List Value} {rows rows' : Nat → Row} {H : Nat → Hd} (h : BagIs w b t cs rows H) (c i g cap' m : Nat) (r : Row)
    (hw1 : Owns w1 ⟨some ⟨g, 0, none⟩, cap'⟩ r) (hr : r = rows' i) (hgr : w.grownBy w1 (H i).blk) (hfresh : (H i).blk = some g ∨ w.heap.size ≤ g)
    (hrow : ∀ j, j ≠ i → rows' j = rows j) (v0 : Value) (hv : cs[c]? = some v0) (hl : cs.set c (.slice (some ⟨g, 0, none⟩) m cap') = cs') :
    w1.cell? ⟨b, c, none⟩ = some v0 ∧ w1.frozen? ⟨b, c, none⟩ = false ∧
    Hid (BagIs (w1.setCell ⟨b, c, none⟩ (.slice (some ⟨g, 0, none⟩) m cap')) b t cs' rows' (upd H i ⟨some ⟨g, 0, none⟩, cap'⟩) ∧
      Turned b w H (w1.setCell ⟨b, c, none⟩ (.slice (some ⟨g, 0, none⟩) m cap')) (upd H i ⟨some ⟨g, 0, none⟩, cap'⟩)) := by
  have hk := (hgr.block b h.lt (fun e => h.off i e.symm)).trans h.blk
  subst hr
  subst hl
  refine ⟨by rw [cell_of hk]; simpa using hv, free_of hk _, ?_⟩
  exact h.put (rows' := rows') c i ⟨some ⟨g, 0, none⟩, cap'⟩ hw1 hgr
    (by rcases hfresh with e | e
        · exact Or.inr (Or.inl e.symm)
        · exact Or.inr (Or.inr ⟨g, rfl, by simpa using e⟩)) hrow _

end Go.Proofs.YtcipkfhpcbddiaaGreat

/- Package report: Rows. -/
namespace Go.Proofs.YtcipkfhpcbddiaaGreat
open Go.RowKit

/-- A report's rows, at a place. -/
structure TellAt (w : World) (b o g : Nat) (L : List Rw) : Prop where
  cell : ∃ arr t, w.heap[b]? = some (.cells arr t (0, 0)) ∧ arr[o + 2]? = some (.slice (some ⟨g, 0, none⟩) L.length L.length)
  arr : w.heap[g]? = some (.cells (rwsV L).toArray 59 (0, 0))
theorem TellAt.still {w w' : World} {b o g : Nat} {L : List Rw} (h : TellAt w b o g L) (k : Kept [] w w') : TellAt w' b o g L := by
  obtain ⟨arr, t, h1, h2⟩ := h.cell
  exact ⟨⟨arr, t, k.get h1 (by simp), h2⟩, k.get h.arr (by simp)⟩
theorem TellAt.at2 {w : World} {b o g : Nat} {L : List Rw} (h : TellAt w b o g L) : w.cell? ⟨b, o + 2, none⟩ = some (.slice (some ⟨g, 0, none⟩) L.length L.length) := by
  obtain ⟨arr, t, h1, h2⟩ := h.cell
  rw [cell_of h1]; exact h2
def isRow (r : Rw) : Bool := !(r.verdict == 0)
def rowsTo (L : List Rw) (k : Nat) : List Rw := (L.take k).filter isRow
theorem rowsTo_len (L : List Rw) (k : Nat) (h : L.length ≤ 10000) : (rowsTo L k).length ≤ 10000 := by
  have h1 := List.length_filter_le isRow (L.take k)
  have h2 : (L.take k).length ≤ L.length := by simp; omega
  unfold rowsTo; omega
theorem rowsTo_yes (L : List Rw) (k : Nat) (hk : k < L.length) (h : (L[k].verdict == 0) = false) : rowsTo L (k + 1) = rowsTo L k ++ [L[k]] := by
  unfold rowsTo; rw [take_snoc L k hk, List.filter_append]; simp [isRow, h]
theorem rowsTo_no (L : List Rw) (k : Nat) (hk : k < L.length) (h : (L[k].verdict == 0) = true) : rowsTo L (k + 1) = rowsTo L k := by
  unfold rowsTo; rw [take_snoc L k hk, List.filter_append]; simp [isRow, h]
theorem rowsTo_end (L : List Rw) : rowsTo L L.length = L.filter isRow := by unfold rowsTo; rw [List.take_length]
theorem rwsV_one (L : List Rw) : ∀ u ∈ rwsV L, u.oneCell' = true := by
  intro u hu
  unfold rwsV at hu
  rw [List.mem_flatMap] at hu
  obtain ⟨r, _, hr⟩ := hu
  exact rwV_one r u hr

set_option maxHeartbeats 2000000 in
set_option maxRecDepth 100000 in
theorem rrows_any (b o g : Nat) (L : List Rw) (w : World) (h : TellAt w b o g L) (hL : L.length ≤ 10000) :
    Calls Tryz.prog 40 #[.pointer (some ⟨b, o, none⟩)] w fun e w' => ∃ ob : Option Nat, e = .returned (rowsSl ob (L.filter isRow).length) ∧ RowsAt w' ob (L.filter isRow) ∧ (∀ x, ob = some x → w.heap.size ≤ x) ∧ Kept [] w w' := by
  obtain ⟨i0, hi, hz0, hz1, hz2⟩ := info_parts infoR
  go_enter Tryz.func40, Tryz.ntmps40
  go_wp2
  go_loopg [3, 4] L.length (fun gk sv i wr => ∃ (k : Nat) (hd : Hd), k ≤ L.length ∧ gk = L.length - k ∧ i = .int .i64 k ∧ sv = .slice hd.ao (rowsTo L k).length hd.cap ∧ Owns wr hd (rowR (rowsTo L k)) ∧ (∀ x, hd.blk = some x → w.heap.size ≤ x) ∧ Kept [] w wr)
  case atStart => exact ⟨0, ⟨none, 0⟩, by omega, by omega, rfl, rfl, World.ownsRow_nil _ _ _ _, by intro x hx; simp [Hd.blk] at hx, Kept.refl _ _⟩
  case round =>
    obtain ⟨k, hd, hk, hg, rfl, rfl, hO, hN, hK⟩ := hrel
    have hT := h.still hK
    have c2 := hT.at2
    have hal := rowsTo_len L k hL
    by_cases hlt : k < L.length
    · obtain ⟨a0, a1, a2, a3, a4, a5⟩ := rw_at hT.arr (fun j v hj => by simpa using hj) k hlt
      have HY := (show Hid _ from rowsTo_yes L k hlt)
      have HN0 := (show Hid _ from rowsTo_no L k hlt)
      have hki : (k : Int) < L.length := by omega
      generalize L[k] = r at *
      cases hv : (r.verdict == 0)
      · have hv' : (r.verdict != 0) = true := by simp [bne, hv]
        have HT := (show Hid _ from HY.out hv)
        have hO4 := hO.moved (fun x hx => ((Kept.refl [] wr).alloc (.cells #[.string r.label, .int .i64 r.verdict, .int .i64 r.why, .string r.at_.file, .int .i64 r.at_.line, .int .i64 r.at_.col] 59)).block x (hO.lt hx) (by simp))
        clear HY HN0
        go_upto_region 6 with fail
        go_wp2_with (at_builtin; refine wpList_append_row _ rfl (.tmp 24) (.tmp 32) 44 rfl i0 (.agg #[.string ⟨#[]⟩, .int .i64 0, .int .i64 0, .string ⟨#[]⟩, .int .i64 0, .int .i64 0]) 64 hd (rowR (rowsTo L k)) Tryz.underlying44 hi hz0 hz1 hz2 rfl (Nat.succ_pos 5) rfl (by exact hO4) ⟨_, 0, none⟩ 1 1 (rwV r) rfl rfl ?d1 ?d2 Nat.one_pos ?d3 ?d4 ?_)
        case d1 =>
          intro j u hj
          match j, hj with
          | 0, hj => simp [rwV] at hj; subst hj; simp [Addr.add]
          | 1, hj => simp [rwV] at hj; subst hj; simp [Addr.add]
          | 2, hj => simp [rwV] at hj; subst hj; simp [Addr.add]
          | 3, hj => simp [rwV] at hj; subst hj; simp [Addr.add]
          | 4, hj => simp [rwV] at hj; subst hj; simp [Addr.add]
          | 5, hj => simp [rwV] at hj; subst hj; simp [Addr.add]
          | j + 6, hj => simp [rwV] at hj
        case d2 => exact rwV_one r
        case d3 => simp only [rowR]; unfold maxLen; omega
        case d4 => simp only [rowR]; omega
        intro g5 cap5 w5 hw5 hgr5 hfresh5
        rw [rowR_snoc (rowsTo L k) r, ← HT.out] at hw5
        have hK4 := hK.alloc (.cells #[.string r.label, .int .i64 r.verdict, .int .i64 r.why, .string r.at_.file, .int .i64 r.at_.line, .int .i64 r.at_.col] 59)
        have hK5 := hK4.grown hgr5 hN
        have hg5 : w.heap.size ≤ g5 := by
          rcases hfresh5 with e | e
          · exact hN g5 e
          · have := hK4.size; simp at e this; omega
        have hEl : Hid ((rowR (rowsTo L k)).n + 1 = (rowsTo L (k + 1)).length) := by show _ = _; rw [HT.out]; simp [rowR]
        rw [hEl.out]
        clear hgr5 hfresh5 hO4
        go_wp2
        go_roundg (L.length - (k + 1))
        case measure => omega
        case rel => exact ⟨k + 1, ⟨some ⟨g5, 0, none⟩, cap5⟩, by omega, rfl, by go_num, rfl, hw5, by intro x hx; simp [Hd.blk] at hx; omega, hK5⟩
      · have hv' : (r.verdict != 0) = false := by simp [bne, hv]
        have HT := (show Hid _ from HN0.out hv)
        clear HY HN0
        go_wp2
        go_roundg (L.length - (k + 1))
        case measure => omega
        case rel => exact ⟨k + 1, hd, by omega, rfl, by go_num, by rw [HT.out], by rw [HT.out]; exact hO, hN, hK⟩
    · have e : k = L.length := by omega
      subst e
      obtain ⟨M, HM⟩ : ∃ M, Hid (L.filter isRow = M) := ⟨_, rfl⟩
      rw [rowsTo_end, HM.out] at hal hO ⊢
      by_cases hm : M.length = 0
      · have hmi : ((M.length : Int) == 0) = true := by simp [hm]
        have hM : M = [] := List.eq_nil_of_length_eq_zero hm
        go_wp2
        go_ret
        rw [HM.out]
        exact ⟨none, rfl, hM, by simp, hK⟩
      · have hmi : ((M.length : Int) == 0) = false := by rw [beq_eq_false_iff_ne]; omega
        have m1 := fun w => run_make_row (P := Tryz.prog) w 44 59 i0 _ Tryz.underlying44 hi hz0 M.length 6 hz1 (by rw [hz2]; omega) (by omega)
        obtain ⟨mc1, hmc1⟩ : ∃ mc, mc = madeCells (Value.agg #[.string ⟨#[]⟩, .int .i64 0, .int .i64 0, .string ⟨#[]⟩, .int .i64 0, .int .i64 0]).cells (M.length * 6) := ⟨_, rfl⟩
        have z1 : mc1.size = M.length * 6 := by rw [hmc1, size_madeCells]
        rw [← hmc1] at m1
        clear hmc1
        have K2 : Kept [] wr (wr.alloc (.cells mc1 59)) := (Kept.refl [] _).alloc _
        have Hsz1 : Hid ((Tryz.prog.info? (rowR M).e).map (·.size) = some (rowR M).size) := by show _ = _; simp [rowR, hi, hz1]
        obtain ⟨w3, cp1, hg3, hk3, hz3⟩ := copy_full (P := Tryz.prog) (wr.alloc (.cells mc1 59)) 44 44 3 wr.heap.size M.length hd (rowR M) mc1 59 Tryz.underlying44 Hsz1.out (heap_alloc_new _ _) (hO.moved (fun x hx => K2.block x (hO.lt hx) (by simp))) z1 (rwsV_one _)
        simp only [rowR] at cp1 hg3
        have K3 : Kept [] wr w3 := ((K2.mono (S' := [wr.heap.size]) (by simp)).trans hk3).mono (by simp)
        have hs := hK.size
        clear hk3 hz3 K2
        go_wp2
        go_ret
        rw [HM.out]
        exact ⟨some wr.heap.size, rfl, ⟨by omega, hg3⟩, fun x hx => by cases hx; exact hs, hK.trans K3⟩

/-- Without a report there are no rows. -/
theorem rrows_nil (b o : Nat) (w : World) (h : w.cell? ⟨b, o + 2, none⟩ = some (.slice none 0 0)) :
    Calls Tryz.prog 40 #[.pointer (some ⟨b, o, none⟩)] w fun e w' => e = .returned (.slice none 0 0) ∧ w' = w := by
  go_enter Tryz.func40, Tryz.ntmps40
  go_wp2
  refine wp_loop_rounds 1 ?_
  rw [rounds_succ]
  go_wp2
  go_ret
  exact ⟨rfl, rfl⟩

end Go.Proofs.YtcipkfhpcbddiaaGreat

/- Package proofs: a compressed proof as far as it was read. -/
namespace Go.Proofs.YtcipkfhpcbddiaaGreat
open Go.RowKit

structure Stp where
  kind : Int
  number : Nat
  at_ : Pl
def stepV (s : Stp) : List Value := [.int .i64 s.kind, .int .i64 s.number, .string s.at_.file, .int .i64 s.at_.line, .int .i64 s.at_.col]
def stepsV (l : List Stp) : List Value := l.flatMap stepV
def rowP (l : List Stp) : Row := ⟨147, 5, l.length, stepsV l⟩
theorem rowP_snoc (l : List Stp) (s : Stp) : (⟨(rowP l).e, (rowP l).size, (rowP l).n + 1, (rowP l).xs ++ stepV s⟩ : Row) = rowP (l ++ [s]) := by simp [rowP, stepsV]
theorem stepV_one (s : Stp) : ∀ u ∈ stepV s, u.oneCell' = true := by
  intro u hu
  simp only [stepV, List.mem_cons, List.not_mem_nil, or_false] at hu
  rcases hu with rfl | rfl | rfl | rfl | rfl <;> rfl
theorem infoP : (Tryz.prog.info? 147).map (fun i => (i.zero, i.size, i.bytes)) = some (some (.agg #[.int .i64 0, .int .i64 0, .string ⟨#[]⟩, .int .i64 0, .int .i64 0]), 5, 48) := by kernel_rfl

structure Cmp where
  names : List Nat
  tagged : List Nat
  steps : List Stp
  digits : Nat
  behind : Bool
def rowC (c : Cmp) : Nat → Row
  | 0 => rowN c.names
  | 1 => rowN c.tagged
  | 2 => rowP c.steps
  | _ + 3 => rowN []
def cmpList (c : Cmp) (H : Nat → Hd) : List Value :=
  [.slice (H 0).ao c.names.length (H 0).cap, .slice (H 1).ao c.tagged.length (H 1).cap, .slice (H 2).ao c.steps.length (H 2).cap, .int .i64 c.digits, .bool c.behind]
def CmpIs (w : World) (b : Nat) (c : Cmp) (H : Nat → Hd) : Prop := BagIs w b 171 (cmpList c H) (rowC c) H
theorem CmpIs.cells {w : World} {b : Nat} {c : Cmp} {H : Nat → Hd} (h : CmpIs w b c H) :
    w.cell? ⟨b, 0, none⟩ = some (.slice (H 0).ao c.names.length (H 0).cap) ∧ w.cell? ⟨b, 1, none⟩ = some (.slice (H 1).ao c.tagged.length (H 1).cap) ∧ w.cell? ⟨b, 2, none⟩ = some (.slice (H 2).ao c.steps.length (H 2).cap) ∧
    w.cell? ⟨b, 3, none⟩ = some (.int .i64 c.digits) ∧ w.cell? ⟨b, 4, none⟩ = some (.bool c.behind) :=
  ⟨BagIs.cell h 0, BagIs.cell h 1, BagIs.cell h 2, BagIs.cell h 3, BagIs.cell h 4⟩

/-- How long things are. -/
structure CmpOk (c : Cmp) (N : Nat) : Prop where
  names : c.names.length ≤ N
  tagged : c.tagged.length ≤ N
  steps : c.steps.length ≤ N
  digits : c.digits ≤ 10 * N + 5
  behind : c.behind = true → 0 < c.steps.length

def addStepF (c : Cmp) (s : Stp) : Cmp := { c with steps := c.steps ++ [s], behind := false }

set_option maxHeartbeats 1600000 in
set_option maxRecDepth 100000 in
theorem addStep_any (b : Nat) (c : Cmp) (H : Nat → Hd) (k : Int) (n : Nat) (f : ByteArray) (l co : Int) (w : World) (h : CmpIs w b c H) (ok : CmpOk c 10000000) :
    Calls Tryz.prog 139 #[.pointer (some ⟨b, 0, none⟩), .agg #[.int .i64 k, .int .i64 n, .string f, .int .i64 l, .int .i64 co]] w fun e w' => e = .returned (.tuple #[]) ∧ ∃ H', CmpIs w' b (addStepF c ⟨k, n, ⟨f, l, co⟩⟩) H' ∧ Turned b w H w' H' ∧ ∀ j, j ≠ 2 → H' j = H j := by
  obtain ⟨i0, hi, hz0, hz1, hz2⟩ := info_parts infoP
  have hsl := ok.steps
  obtain ⟨W, hW⟩ : ∃ W, W = w.alloc (.cells #[.int .i64 k, .int .i64 n, .string f, .int .i64 l, .int .i64 co] 147) := ⟨_, rfl⟩
  have K : Kept [] w W := by rw [hW]; exact (Kept.refl [] _).alloc _
  have hC : CmpIs W b c H := BagIs.still h K
  have B : W.heap[w.heap.size]? = some (.cells #[.int .i64 k, .int .i64 n, .string f, .int .i64 l, .int .i64 co] 147 (0, 0)) := by rw [hW]; exact heap_alloc_new _ _
  have y0 : W.cell? ⟨w.heap.size, 0, none⟩ = some (.int .i64 k) := by rw [cell_of B]; rfl
  have y1 : W.cell? ⟨w.heap.size, 1, none⟩ = some (.int .i64 n) := by rw [cell_of B]; rfl
  have y2 : W.cell? ⟨w.heap.size, 2, none⟩ = some (.string f) := by rw [cell_of B]; rfl
  have y3 : W.cell? ⟨w.heap.size, 3, none⟩ = some (.int .i64 l) := by rw [cell_of B]; rfl
  have y4 : W.cell? ⟨w.heap.size, 4, none⟩ = some (.int .i64 co) := by rw [cell_of B]; rfl
  obtain ⟨c0, c1, c2, c3, c4⟩ := hC.cells
  clear c0 c1 c3
  have hfr := BagIs.free hC
  have hbW := BagIs.lt hC
  have hwW := lt_of_get B
  have hD : Hid (CmpIs (W.alloc (.cells #[.int .i64 k, .int .i64 n, .string f, .int .i64 l, .int .i64 co] 147)).drew b c H) := BagIs.still hC ((Kept.refl [] W).alloc _).drew
  have s2 : Hid (∀ j u, (stepV ⟨k, n, ⟨f, l, co⟩⟩)[j]? = some u → (W.alloc (.cells #[.int .i64 k, .int .i64 n, .string f, .int .i64 l, .int .i64 co] 147)).drew.cell? ((⟨W.heap.size, 0, none⟩ : Addr).add j) = some u) := by
    intro j u hj
    have hk : (W.alloc (.cells #[.int .i64 k, .int .i64 n, .string f, .int .i64 l, .int .i64 co] 147)).drew.heap[W.heap.size]? = some (.cells #[.int .i64 k, .int .i64 n, .string f, .int .i64 l, .int .i64 co] 147 (0, 0)) := heap_alloc_new _ _
    rw [addr_add, cell_of hk]; simpa [stepV] using hj
  have s4 : Hid ((rowP c.steps).n + 1 ≤ maxLen) := by show _ ≤ _; simp only [rowP]; unfold maxLen; omega
  have s5 : Hid (((rowP c.steps).n + 1) * 48 ≤ 140737488355328) := by show _ ≤ _; simp only [rowP]; omega
  have HW := (show Hid _ from hW.symm)
  have hrw : Hid (∀ j, j ≠ 2 → rowC { c with steps := c.steps ++ [⟨k, n, ⟨f, l, co⟩⟩] } j = rowC c j) := by
    intro j hj
    match j, hj with
    | 0, _ => rfl
    | 1, _ => rfl
    | 2, hj => exact absurd rfl hj
    | m + 3, _ => rfl
  clear hW B h
  go_enter Tryz.func139, Tryz.ntmps139
  go_upto_region 1 with fail
  rw [HW.out]
  go_region_law (refine step_append_row rfl (.tmp 8) (.tmp 10) 139 rfl i0 (.agg #[.int .i64 0, .int .i64 0, .string ⟨#[]⟩, .int .i64 0, .int .i64 0]) 48 (H 2) (rowP c.steps) Tryz.underlying139 hi hz0 hz1 hz2 rfl (Nat.succ_pos 4) (by simp [Act.eval] <;> rfl) (BagIs.own hD.out 2) ⟨W.heap.size, 0, none⟩ 1 1 (stepV ⟨k, n, ⟨f, l, co⟩⟩) (by simp [Act.eval]) rfl s2.out (stepV_one _) Nat.one_pos s4.out s5.out ?_; intro g cap' w1 hw1 hgr hfresh; obtain ⟨k5, f5, HP⟩ := BagIs.app hD.out (cs' := cmpList { c with steps := c.steps ++ [⟨k, n, ⟨f, l, co⟩⟩] } (upd H 2 ⟨some ⟨g, 0, none⟩, cap'⟩)) (rows' := rowC { c with steps := c.steps ++ [⟨k, n, ⟨f, l, co⟩⟩] }) 2 2 g cap' ((rowP c.steps).n + 1) _ hw1 (rowP_snoc c.steps ⟨k, n, ⟨f, l, co⟩⟩) hgr (by simpa using hfresh) hrw.out (.slice (H 2).ao c.steps.length (H 2).cap) rfl (by simp [cmpList, upd, rowP]); clear hw1 hgr hfresh)
  all_goals
    have D2 := (show Hid _ from BagIs.set HP.out.1 4 (.bool false))
    have hb4 := (BagIs.cell HP.out.1 4)
    have hf4 := BagIs.free HP.out.1
    simp only [cmpList, List.getElem?_cons_succ, List.getElem?_cons_zero] at hb4
    clear c2 c4 hfr y0 y1 y2 y3 y4 k5 f5
    go_wp2
    go_end0
    exact ⟨rfl, _, D2.out.1, ((HP.out.2.first ((Kept.refl [] _).alloc _).drew).first K).trans D2.out.2, fun j hj => upd_other _ _ _ _ hj⟩

end Go.Proofs.YtcipkfhpcbddiaaGreat
