/- Our texts: Fr5, Fm1, Nam3, Gv3, Gv5. -/
import Derived.Test.YtcipkfhpcbddiaaGreatG15
import Derived.Test.YtcipkfhpcbddiaaGreatG20
import Derived.Test.YtcipkfhpcbddiaaGreatG21
/- Package frames: Of, Lines. -/
namespace Go.Proofs.YtcipkfhpcbddiaaGreat
open Go.RowKit

/-- The mandatory pairs of an assertion. -/
def pairsF (l : List St) (a : Nat) : List Pr := prsF (varsOfF l (hypsF l a)) (marksF l a (varsOfF l (hypsF l a)))
def lineN (l : List St) (n : Nat) : ByteArray := match l[n]? with | some s => lineF s | none => ⟨#[]⟩
def pairLine (p : Pr) : ByteArray := ⟨#[36, 100, 32]⟩ ++ p.1 ++ ⟨#[32]⟩ ++ p.2
/-- The lines of a frame. -/
def linesF (l : List St) (a : Nat) : List ByteArray := (hypsF l a).map (lineN l) ++ (pairsF l a).map pairLine ++ [lineN l a]
theorem hyps_lt (l : List St) (a n : Nat) (h : n ∈ hypsF l a) : n < l.length := by
  unfold hypsF hypsTo at h
  exact List.mem_range.1 (List.mem_filter.1 h).1
theorem hyps_len (l : List St) (a : Nat) : (hypsF l a).length ≤ l.length := by
  unfold hypsF hypsTo
  have := List.length_filter_le (mandAt l (symsOfF l a) a) (List.range l.length)
  simpa using this
theorem fvars_len (l : List St) (hs : List Nat) : (varsOfF l hs).length ≤ hs.length := List.length_filterMap_le _ _
theorem build_frame (w : World) (a1 a2 : Option Addr) (n1 c1 n2 c2 : Nat) : (Instr.build 124 #[(0, .slice a1 n1 c1), (1, .slice a2 n2 c2)]).run Tryz.prog w = .ok (.agg #[.slice a1 n1 c1, .slice a2 n2 c2]) w :=
  run_build w 124 _ _ (by kernel_rfl)
attribute [local go_sem] build_frame

set_option maxHeartbeats 2000000 in
set_option maxRecDepth 100000 in
theorem of_any (b o a : Nat) (l : List St) (H : Nat → Hd) (w : World) (h : RecAt w b o l H) (ha : a < l.length) (ok : RecOk l) :
    Calls Tryz.prog 56 #[.pointer (some ⟨b, o, none⟩), .int .i64 a] w fun e w' => ∃ hh hp : Hd, e = .returned (.agg #[.slice hh.ao (hypsF l a).length hh.cap, .slice hp.ao (pairsF l a).length hp.cap]) ∧ Owns w' hh (rowN (hypsF l a)) ∧ Owns w' hp (rowPr (pairsF l a)) ∧ (∀ k, hh.blk = some k ∨ hp.blk = some k → w.heap.size ≤ k) ∧ Kept [] w w' := by
  have hlen := ok.len
  have hhl := hyps_len l a
  have hvl := fvars_len l (hypsF l a)
  have HLT : Hid (∀ x ∈ hypsF l a, x < l.length) := fun x hx => hyps_lt l a x hx
  have HP : Hid (pairsF l a = prsF (varsOfF l (hypsF l a)) (marksF l a (varsOfF l (hypsF l a)))) := rfl
  obtain ⟨W, hW⟩ : ∃ W, W = w.alloc (.cells #[.slice none 0 0, .slice none 0 0] 124) := ⟨_, rfl⟩
  have hK : Kept [] w W := by rw [hW]; exact (Kept.refl [] _).alloc _
  have hF : W.heap[w.heap.size]? = some (.cells #[.slice none 0 0, .slice none 0 0] 124 (0, 0)) := by rw [hW]; exact heap_alloc_new _ _
  have HW := (show Hid _ from hW.symm)
  clear hW
  have hrW := h.still hK
  have HHA := (show Hid _ from hypotheses_any b o a l H W hrW ha ok)
  go_enter Tryz.func56, Tryz.ntmps56
  go_wp2_with fail
  rw [HW.out]
  refine Calls.mono HHA.out ?_
  rintro e w1 ⟨hh, rfl, hO1, hN1, k1⟩
  go_wp2_with fail
  refine (variablesOf_any b o l H (hypsF l a) hh w1 (hrW.still k1) ok hO1 (by omega) HLT.out).mono ?_
  rintro e w2 ⟨hv, rfl, hO2, hN2, k2⟩
  go_wp2_with fail
  refine (pairsOf_any b o a l H hv (varsOfF l (hypsF l a)) w2 ((hrW.still k1).still k2) ok hO2 (by omega)).mono ?_
  rintro e w3 ⟨hp, rfl, hO3, hN3, k3⟩
  rw [← HP.out] at hO3 ⊢
  have hO13 : Owns w3 hh (rowN (hypsF l a)) := hO1.moved (fun x hx => (k2.trans k3).block x (hO1.lt hx) (by simp))
  have hF3 := ((k1.trans k2).trans k3).get hF (by simp)
  have hK3 : Kept [] w w3 := ((hK.trans k1).trans k2).trans k3
  have hs1 := (hK.trans k1).size
  have hs2 := ((hK.trans k1).trans k2).size
  have hq1 := k1.size
  have hq2 := k2.size
  have hsW := lt_of_get hF
  have hsw := hK.size
  have z0 : w3.cell? ⟨w.heap.size, 0, none⟩ = some (.slice none 0 0) := by rw [cell_of hF3]; rfl
  have z1 : w3.cell? ⟨w.heap.size, 1, none⟩ = some (.slice none 0 0) := by rw [cell_of hF3]; rfl
  have yf := free_of hF3
  have HO1 : Hid (∀ u v, Owns ((w3.setCell ⟨w.heap.size, 0, none⟩ u).setCell ⟨w.heap.size, 1, none⟩ v) hh (rowN (hypsF l a))) := fun u v => hO13.moved (fun x hx => (Below.heap_setCell _ _ _ _ (by have := hN1 x hx; show x ≠ w.heap.size; omega)).trans (Below.heap_setCell _ _ _ _ (by have := hN1 x hx; show x ≠ w.heap.size; omega)))
  have HO3 : Hid (∀ u v, Owns ((w3.setCell ⟨w.heap.size, 0, none⟩ u).setCell ⟨w.heap.size, 1, none⟩ v) hp (rowPr (pairsF l a))) := fun u v => hO3.moved (fun x hx => (Below.heap_setCell _ _ _ _ (by have := hN3 x hx; show x ≠ w.heap.size; omega)).trans (Below.heap_setCell _ _ _ _ (by have := hN3 x hx; show x ≠ w.heap.size; omega)))
  clear hO1 hO2 hO3 hO13
  go_wp2
  exact bodyPost_ret (v := .agg #[.slice hh.ao (hypsF l a).length hh.cap, .slice hp.ao (pairsF l a).length hp.cap]) (by simp [results, Tryz.results56, go_sem, z0, z1]) rfl
    ⟨hh, hp, rfl, HO1.out _ _, HO3.out _ _, fun k hk => hk.elim (fun hk => by have := hN1 k hk; omega) (fun hk => by have := hN3 k hk; omega),
      (hK3.setCell (Or.inr (Nat.le_refl _)) _).setCell (Or.inr (Nat.le_refl _)) _⟩

/-- A list as far as it was written. -/
def partL (L : List ByteArray) (k : Nat) : List ByteArray := L.take k ++ List.replicate (L.length - k) ⟨#[]⟩
theorem partL_len (L : List ByteArray) (k : Nat) (h : k ≤ L.length) : (partL L k).length = L.length := by simp [partL]; omega
theorem partL_next (L : List ByteArray) (k : Nat) (h : k < L.length) : partL L (k + 1) = (partL L k).set k L[k] := by
  unfold partL
  rw [take_snoc L k h]
  apply List.ext_getElem?
  intro i
  have hk : (L.take k).length = k := by simp; omega
  rcases Nat.lt_trichotomy i k with hi | hi | hi
  · rw [List.getElem?_set_ne (by omega), List.getElem?_append_left (by simp; omega), List.getElem?_append_left (by omega), List.getElem?_append_left (by omega)]
  · subst hi
    rw [List.getElem?_set_self (by simp; omega), List.getElem?_append_left (by simp; omega), List.getElem?_append_right (by omega), hk]
    simp
  · rw [List.getElem?_set_ne (by omega), List.getElem?_append_right (by simp; omega), List.getElem?_append_right (by omega)]
    simp only [List.length_append, hk, List.length_singleton, List.getElem?_replicate]
    by_cases h2 : i < L.length
    · rw [if_pos (by omega), if_pos (by omega)]
    · rw [if_neg (by omega), if_neg (by omega)]
theorem partL_end (L : List ByteArray) : partL L L.length = L := by simp [partL]
theorem strs_set (L : List ByteArray) (k : Nat) (x : ByteArray) : strs (L.set k x) = (strs L).set k (.string x) := by simp [strs, List.map_set]
/-- The lines in memory, as far as they were written. -/
def LnsAt (w : World) (g : Nat) (L : List ByteArray) (k : Nat) : Prop := w.heap[g]? = some (.cells (strs (partL L k)).toArray 9 (0, 0))
theorem LnsAt.next {w : World} {g : Nat} {L : List ByteArray} {k : Nat} {x : ByteArray} (h : LnsAt w g L k) (hx : L[k]? = some x) : LnsAt (w.setCell ⟨g, k, none⟩ (.string x)) g L (k + 1) := by
  obtain ⟨hk, rfl⟩ := List.getElem?_eq_some_iff.1 hx
  unfold LnsAt at h ⊢
  rw [block_setCell h, partL_next L k hk, strs_set, List.setIfInBounds_toArray]
theorem LnsAt.cell {w : World} {g : Nat} {L : List ByteArray} {k i : Nat} (h : LnsAt w g L k) (hk : k ≤ L.length) (hi : i < L.length) : ∃ x, w.cell? ⟨g, i, none⟩ = some (.string x) := by
  refine ⟨(partL L k)[i]'(by rw [partL_len L k hk]; exact hi), ?_⟩
  rw [cell_of h]
  simp [strs]
theorem LnsAt.kept {w w' : World} {g : Nat} {L : List ByteArray} {k : Nat} {S : List Nat} (h : LnsAt w g L k) (q : Kept S w w') (hg : g ∉ S) : LnsAt w' g L k := q.get h hg

/-- What lines are made of is not long. -/
def SzsOk (l : List St) : Prop := ∀ s ∈ l, s.kind ≠ 1 → SzOk s
theorem lines_len (l : List St) (a : Nat) : (linesF l a).length = (hypsF l a).length + (pairsF l a).length + 1 := by simp [linesF]; omega
theorem lines_hyp (l : List St) (a k : Nat) (h : k < (hypsF l a).length) (hq : (hypsF l a)[k] < l.length) : (linesF l a)[k]? = some (lineF l[(hypsF l a)[k]]) := by
  unfold linesF
  rw [List.getElem?_append_left (by simp; omega), List.getElem?_append_left (by simpa using h), List.getElem?_map, List.getElem?_eq_getElem h]
  simp [lineN, List.getElem?_eq_getElem hq]
theorem lines_pair (l : List St) (a j : Nat) (h : j < (pairsF l a).length) : (linesF l a)[(hypsF l a).length + j]? = some (pairLine (pairsF l a)[j]) := by
  unfold linesF
  rw [List.getElem?_append_left (by simp; omega), List.getElem?_append_right (by simp), List.getElem?_map]
  simp [h]
theorem lines_last (l : List St) (a : Nat) (ha : a < l.length) : (linesF l a)[(hypsF l a).length + (pairsF l a).length]? = some (lineF l[a]) := by
  unfold linesF
  rw [List.getElem?_append_right (by simp)]
  simp [lineN, List.getElem?_eq_getElem ha]
theorem kind_hyp (l : List St) (a n : Nat) (h : n ∈ hypsF l a) (hn : n < l.length) : l[n].kind = 2 ∨ l[n].kind = 3 := by
  unfold hypsF hypsTo at h
  obtain ⟨-, h2⟩ := List.mem_filter.1 h
  unfold mandAt at h2
  rw [List.getElem?_eq_getElem hn] at h2
  simp only [Bool.and_eq_true] at h2
  have := h2.2
  unfold mandF at this
  cases e2 : (l[n].kind == 2)
  · rw [e2] at this; right; simpa using this
  · left; simpa using e2
theorem gD_size (vs : List ByteArray) (i n : Nat) (h : ∀ x ∈ vs, x.size ≤ n) : (gD vs i).size ≤ n := by
  unfold gD
  rw [List.getD_eq_getElem?_getD]
  cases e : vs[i]? with
  | none => exact Nat.zero_le _
  | some x => exact h x (List.mem_of_getElem? e)
theorem pairs_size (l : List St) (a : Nat) (hz : SzsOk l) (p : Pr) (h : p ∈ pairsF l a) : p.1.size ≤ 100000 ∧ p.2.size ≤ 100000 := by
  have hv : ∀ x ∈ varsOfF l (hypsF l a), x.size ≤ 100000 := by
    intro x hx
    unfold varsOfF at hx
    obtain ⟨n, hn, he⟩ := List.mem_filterMap.1 hx
    have hnl := hyps_lt l a n hn
    unfold varOne at he
    rw [List.getElem?_eq_getElem hnl] at he
    simp only at he
    split at he
    · next h2 =>
      cases he
      have hk := kind_hyp l a n hn hnl
      have hs := hz l[n] (List.getElem_mem hnl) (by omega)
      unfold variableF
      split
      · next hc =>
        refine hs.syms _ ?_
        rw [List.getD_eq_getElem?_getD, List.getElem?_eq_getElem (show 1 < l[n].symbols.length by omega)]
        exact List.getElem_mem _
      · exact Nat.zero_le _
    · cases he
  unfold pairsF prsF prTo at h
  obtain ⟨i, -, h⟩ := List.mem_flatMap.1 h
  unfold prRow at h
  obtain ⟨j, -, rfl⟩ := List.mem_map.1 h
  exact ⟨gD_size _ _ _ hv, gD_size _ _ _ hv⟩
theorem d3_size : (⟨#[36, 100, 32]⟩ : ByteArray).size = 3 := rfl
theorem prsV_at (L : List Pr) (k : Nat) (h : k < L.length) : (prsV L)[k * 2]? = some (.string L[k].1) ∧ (prsV L)[k * 2 + 1]? = some (.string L[k].2) := by
  induction L generalizing k with
  | nil => simp at h
  | cons p L ih =>
    cases k with
    | zero => exact ⟨rfl, rfl⟩
    | succ k =>
      have := ih k (by simpa using h)
      have e : prsV (p :: L) = .string p.1 :: .string p.2 :: prsV L := rfl
      rw [e]
      refine ⟨?_, ?_⟩
      · rw [show (k + 1) * 2 = k * 2 + 1 + 1 by omega]; simpa using this.1
      · rw [show (k + 1) * 2 + 1 = k * 2 + 1 + 1 + 1 by omega]; simpa using this.2

set_option maxHeartbeats 3000000 in
set_option maxRecDepth 100000 in
theorem lines_any' (b o a : Nat) (l : List St) (H : Nat → Hd) (w : World) (h : RecAt w b o l H) (ha : a < l.length) (ok : RecOk l) (hz : SzsOk l) (hka : l[a].kind ≠ 1) :
    Calls Tryz.prog 48 #[.pointer (some ⟨b, o, none⟩), .int .i64 a] w fun e w' => ∃ g, e = .returned (.slice (some ⟨g, 0, none⟩) (linesF l a).length (linesF l a).length) ∧ LnsAt w' g (linesF l a) (linesF l a).length ∧ w.heap.size ≤ g ∧ Kept [] w w' := by
  obtain ⟨i0, hi, hz0, hz1, hz2⟩ := info_parts infoS
  have hlen := ok.len
  have hhl := hyps_len l a
  have hvl := fvars_len l (hypsF l a)
  have hpl : (pairsF l a).length ≤ 100000000 := prs_len _ _ (by omega)
  have HLL := (show Hid _ from lines_len l a)
  obtain ⟨N, HN⟩ : ∃ N, Hid ((linesF l a).length = N) := ⟨_, rfl⟩
  rw [HN.out] at HLL ⊢
  have HLh : Hid (∀ k (h : k < (hypsF l a).length) (hq : (hypsF l a)[k] < l.length), (linesF l a)[k]? = some (lineF l[(hypsF l a)[k]])) := fun k h hq => lines_hyp l a k h hq
  have HLp : Hid (∀ j (h : j < (pairsF l a).length), (linesF l a)[(hypsF l a).length + j]? = some (pairLine (pairsF l a)[j])) := fun j h => lines_pair l a j h
  have HLl : Hid ((linesF l a)[(hypsF l a).length + (pairsF l a).length]? = some (lineF l[a])) := lines_last l a ha
  have HPS := (show Hid _ from pairs_size l a hz)
  have HHK : Hid (∀ n ∈ hypsF l a, ∃ h : n < l.length, SzOk l[n]) := fun n hn => ⟨hyps_lt l a n hn, hz _ (List.getElem_mem _) (by have := kind_hyp l a n hn (hyps_lt l a n hn); omega)⟩
  have hsa := hz _ (List.getElem_mem ha) hka
  have HOF := (show Hid _ from of_any b o a l H w h ha ok)
  have m1 := fun w => run_make_row (P := Tryz.prog) w 22 9 i0 _ Tryz.underlying22 hi hz0 N 1 hz1 (by rw [hz2]; have := HLL.out; omega) (by have := HLL.out; omega)
  obtain ⟨mc, hmc⟩ : ∃ mc, mc = madeCells (Value.string ⟨#[]⟩).cells (N * 1) := ⟨_, rfl⟩
  rw [← hmc] at m1
  have HMC : Hid (mc = (strs (partL (linesF l a) 0)).toArray) := by
    show _ = _
    rw [hmc]
    have e : (Value.string ⟨#[]⟩).cells = #[.string ⟨#[]⟩] := rfl
    rw [e, made_all]
    simp [partL, strs, HN.out]
  clear hmc hz
  generalize hL : linesF l a = L at *
  generalize hHy : hypsF l a = hs at *
  generalize hPr : pairsF l a = ps at *
  clear hL hHy hPr hvl
  have hNi : (hs.length : Int) + (ps.length : Int) + 1 = (N : Int) := by have := HLL.out; omega
  have hNb : N ≤ 200000000 := by have := HLL.out; omega
  have hnN : hs.length + ps.length < N := by have := HLL.out; omega
  go_enter Tryz.func48, Tryz.ntmps48
  go_wp2_with fail
  refine Calls.mono HOF.out ?_
  rintro e w1 ⟨hh, hp, rfl, hO1, hO2, hN1, k1⟩
  obtain ⟨AH, HAH⟩ : ∃ AH, Hid (hh.ao = AH) := ⟨_, rfl⟩
  obtain ⟨AP, HAP⟩ : ∃ AP, Hid (hp.ao = AP) := ⟨_, rfl⟩
  rw [HAH.out, HAP.out]
  obtain ⟨X, hX⟩ : ∃ X, X = w1.alloc (.cells #[.slice AH hs.length hh.cap, .slice AP ps.length hp.cap] 124) := ⟨_, rfl⟩
  have kX : Kept [] w1 X := by rw [hX]; exact (Kept.refl [] _).alloc _
  have BX : X.heap[w1.heap.size]? = some (.cells #[.slice AH hs.length hh.cap, .slice AP ps.length hp.cap] 124 (0, 0)) := by rw [hX]; exact heap_alloc_new _ _
  have HX := (show Hid _ from hX.symm)
  clear hX
  obtain ⟨Y, hY⟩ : ∃ Y, Y = X.alloc (.cells mc 9) := ⟨_, rfl⟩
  have kY : Kept [] X Y := by rw [hY]; exact (Kept.refl [] _).alloc _
  have BY : LnsAt Y X.heap.size L 0 := by unfold LnsAt; rw [hY, ← HMC.out]; exact heap_alloc_new _ _
  have HY := (show Hid _ from hY.symm)
  clear hY
  have u0 : X.cell? ⟨w1.heap.size, 0, none⟩ = some (.slice AH hs.length hh.cap) := by rw [cell_of BX]; rfl
  have u1 : X.cell? ⟨w1.heap.size, 1, none⟩ = some (.slice AP ps.length hp.cap) := by rw [cell_of BX]; rfl
  have hFX := lt_of_get BX
  have hrX := h.still (k1.trans kX)
  have hsX := (k1.trans kX).size
  have hO1X : Owns X hh (rowN hs) := hO1.moved (fun x hx => kX.block x (hO1.lt hx) (by simp))
  have hO2X : Owns X hp (rowPr ps) := hO2.moved (fun x hx => kX.block x (hO2.lt hx) (by simp))
  go_upto_region 3 with fail
  rw [HX.out]
  go_upto_region 4 with fail
  rw [HY.out]
  clear u0 u1 m1
  generalize hG : X.heap.size = G at *
  go_wp2
  go_loopg [8] hs.length (fun gk i wr => ∃ (k : Nat), k ≤ hs.length ∧ gk = hs.length - k ∧ i = .int .i64 k ∧ LnsAt wr G L k ∧ Kept [] X wr)
  case atStart => exact ⟨0, by omega, by omega, rfl, BY, kY⟩
  case round =>
    obtain ⟨k, hk, hg, rfl, hLn, hK⟩ := hrel
    have hrr := hrX.still hK
    have BXr := hK.get BX (by simp)
    have hFr := lt_of_get BXr
    have u0 : wr.cell? ⟨w1.heap.size, 0, none⟩ = some (.slice AH hs.length hh.cap) := by rw [cell_of BXr]; rfl
    have u1 : wr.cell? ⟨w1.heap.size, 1, none⟩ = some (.slice AP ps.length hp.cap) := by rw [cell_of BXr]; rfl
    by_cases hlt : k < hs.length
    · have hOHr : Owns wr hh (rowN hs) := hO1X.moved (fun x hx => hK.block x (hO1X.lt hx) (by simp))
      rcases hOHr.ways with ⟨_, h0, _⟩ | ⟨gh, curh, eh, eh2, eh3, -⟩
      · have : hs.length = 0 := h0
        omega
      have ch := hOHr.cell eh k (.int .i64 hs[k]) (nums_at hs k hlt)
      have hAH : AH = some ⟨gh, 0, none⟩ := by rw [← HAH.out]; exact eh
      subst hAH
      obtain ⟨hql, hqs⟩ := HHK.out hs[k] (List.getElem_mem hlt)
      have HLk := (show Hid _ from HLh.out k hlt hql)
      have hki : (k : Int) < hs.length := by omega
      clear eh eh2 eh3 hOHr
      generalize hs[k] = q at *
      have hsl := ok.syms q hql
      have hqv := (hrr.sts.syms q l[q] (List.getElem?_eq_getElem hql)).view
      go_wp2_with fail
      refine (statement_any b o q l H wr hrr hql).mono ?_
      rintro e w3 ⟨rfl, k3⟩
      go_wp2_with fail
      refine (line_any l[q] _ _ w3 (hqv.still k3) hsl hqs).mono ?_
      rintro e w4 ⟨rfl, k4⟩
      have K34 := k3.trans k4
      have hLn4 := hLn.kept K34 (by simp)
      obtain ⟨x0, cx⟩ := hLn4.cell (i := k) (by have := HN.out; omega) (by have := HN.out; omega)
      have hfr := free_of hLn4
      have hGw := lt_of_get hLn4
      have HNX := (show Hid _ from hLn4.next HLk.out)
      have hKK := hK.trans K34
      have hkN : (k : Int) < (N : Int) := by omega
      generalize lineF l[q] = tx at *
      go_wp2
      go_roundg (hs.length - (k + 1))
      case measure => omega
      case rel => exact ⟨k + 1, by omega, rfl, by go_num, HNX.out, hKK.setCell (Or.inr (Nat.le_of_eq hG)) _⟩
    · have e : k = hs.length := by omega
      subst e
      clear u0
      go_wp2
      go_loopg [9] ps.length (fun gk2 i2 wr2 => ∃ (j : Nat), j ≤ ps.length ∧ gk2 = ps.length - j ∧ i2 = .int .i64 j ∧ LnsAt wr2 G L (hs.length + j) ∧ Kept [] X wr2)
      case atStart => exact ⟨0, by omega, by omega, rfl, hLn, hK⟩
      case round =>
        obtain ⟨j, hj, hg2, rfl, hLn2, hK2⟩ := hrel
        clear hLn hK hrr BXr hFr u1
        have BX2 := hK2.get BX (by simp)
        have hF2 := lt_of_get BX2
        have u1 : wr.cell? ⟨w1.heap.size, 1, none⟩ = some (.slice AP ps.length hp.cap) := by rw [cell_of BX2]; rfl
        by_cases hlj : j < ps.length
        · have hOPr : Owns wr hp (rowPr ps) := hO2X.moved (fun x hx => hK2.block x (hO2X.lt hx) (by simp))
          rcases hOPr.ways with ⟨_, h0, _⟩ | ⟨gp, curp, ep, ep2, ep3, -⟩
          · have : ps.length = 0 := h0
            omega
          obtain ⟨v1, v2⟩ := prsV_at ps j hlj
          have cp1 := hOPr.cell ep (j * 2) _ v1
          have cp2 := hOPr.cell ep (j * 2 + 1) _ v2
          have hgp := lt_of_get ep2
          have hAP : AP = some ⟨gp, 0, none⟩ := by rw [← HAP.out]; exact ep
          subst hAP
          have HLk := (show Hid _ from HLp.out j hlj)
          obtain ⟨z1, z2⟩ := HPS.out _ (List.getElem_mem hlj)
          have hji : (j : Int) < ps.length := by omega
          have hj0 : (0 : Int) ≤ j := by omega
          have hx0 : (0 : Int) ≤ (hs.length : Int) + (j : Int) := by omega
          have hx1 : (hs.length : Int) + (j : Int) < (N : Int) := by omega
          have hwr : IntKind.i64.wrap ((hs.length : Int) + (j : Int)) = (hs.length : Int) + (j : Int) := by rw [IntKind.wrap_i64]; omega
          have htn : ((hs.length : Int) + (j : Int)).toNat = hs.length + j := by omega
          have hgpX := hO2X.lt (k := gp) (by unfold Hd.blk; rw [ep]; rfl)
          have ne1 : G ≠ w1.heap.size := by omega
          have ne2 : w1.heap.size ≠ G := by omega
          have ne3 : G ≠ gp := by omega
          have ne4 : gp ≠ G := by omega
          clear ep ep2 ep3 hOPr v1 v2
          generalize ps[j] = pp at *
          obtain ⟨p1, p2⟩ := pp
          simp only at cp1 cp2 z1 z2
          have HT : Hid (⟨#[36, 100, 32]⟩ ++ p1 ++ ⟨#[32]⟩ ++ p2 = pairLine (p1, p2)) := rfl
          have n1 : ¬ 9223372036854775807 < 3 + p1.size := by omega
          have n2 : ¬ 9223372036854775807 < 3 + p1.size + 1 := by omega
          have n3 : ¬ 9223372036854775807 < 3 + p1.size + 1 + p2.size := by omega
          obtain ⟨x0, cx⟩ := hLn2.cell (i := hs.length + j) (by have := HN.out; omega) (by have := HN.out; omega)
          have hfr := free_of hLn2
          have hGw := lt_of_get hLn2
          have HNX : Hid (LnsAt (wr.setCell ⟨G, hs.length + j, none⟩ (.string (pairLine (p1, p2)))).drew G L (hs.length + j + 1)) := (hLn2.next HLk.out).kept (Kept.refl [] _).drew (by simp)
          go_upto_region 11 with fail
          go_region_held3 (fun w' => w'.cell? ⟨w1.heap.size, 1, none⟩ = some (.slice (some ⟨gp, 0, none⟩) ps.length hp.cap) ∧ w'.cell? ⟨gp, j * 2, none⟩ = some (.string p1) ∧ w'.cell? ⟨gp, j * 2 + 1, none⟩ = some (.string p2)) (go_keep) (fail)
          rw [HT.out]
          go_wp2
          go_roundg (ps.length - (j + 1))
          case measure => omega
          case rel => exact ⟨j + 1, by omega, rfl, by go_num, HNX.out, (hK2.setCell (Or.inr (Nat.le_of_eq hG)) _).drew⟩
        · have e : j = ps.length := by omega
          subst e
          have hrr := hrX.still hK2
          have hqv := (hrr.sts.syms a l[a] (List.getElem?_eq_getElem ha)).view
          have hsl := ok.syms a ha
          have htn : ((hs.length : Int) + (ps.length : Int)).toNat = hs.length + ps.length := by omega
          have hNs : (N : Int) - 1 = (hs.length : Int) + (ps.length : Int) := by omega
          go_wp2_with fail
          refine (statement_any b o a l H wr hrr ha).mono ?_
          rintro e w3 ⟨rfl, k3⟩
          go_wp2_with fail
          refine (line_any l[a] _ _ w3 (hqv.still k3) hsl hsa).mono ?_
          rintro e w4 ⟨rfl, k4⟩
          have K34 := k3.trans k4
          have hLn4 := hLn2.kept K34 (by simp)
          obtain ⟨x0, cx⟩ := hLn4.cell (i := hs.length + ps.length) (by have := HN.out; omega) (by have := HN.out; omega)
          have hfr := free_of hLn4
          have hGw := lt_of_get hLn4
          have HNX := (show Hid _ from hLn4.next HLl.out)
          have hKK := hK2.trans K34
          have hx0 : (0 : Int) ≤ (hs.length : Int) + (ps.length : Int) := by omega
          have hx1 : (hs.length : Int) + (ps.length : Int) < (N : Int) := by omega
          have HE : Hid (hs.length + ps.length + 1 = N) := HLL.out.symm
          rw [HE.out] at HNX
          generalize lineF l[a] = tx at *
          go_wp2
          go_ret
          exact ⟨G, rfl, HNX.out, by omega, (k1.trans (kX.trans hKK)).setCell (Or.inr (by show w.heap.size ≤ G; omega)) _⟩

end Go.Proofs.YtcipkfhpcbddiaaGreat

/- Package metaproofkeep: a frame that was read: the form, as a value and in memory. -/
namespace Go.Proofs.YtcipkfhpcbddiaaGreat
open Go.RowKit

structure Fm where
  hyps : List ByteArray
  which : List Int
  vars : List ByteArray
  types : List ByteArray
  ess : List (List ByteArray)
  left : List ByteArray
  right : List ByteArray
  goal : List ByteArray
def fm0 : Fm := ⟨[], [], [], [], [], [], [], []⟩
def isD (ws : List ByteArray) : Bool := (gD ws 0).toList == [36, 100]
def isKey (ws : List ByteArray) (c : UInt8) : Bool := (gD ws 1).toList == [36, c]
/-- One line more. -/
def stepF (f : Fm) (ws : List ByteArray) : Fm :=
  if isD ws = true then { f with left := f.left ++ [gD ws 1], right := f.right ++ [gD ws 2] }
  else if isKey ws 102 = true ∧ ws.length = 4 then { f with hyps := f.hyps ++ [gD ws 0], which := f.which ++ [(f.vars.length : Int)], types := f.types ++ [gD ws 2], vars := f.vars ++ [gD ws 3] }
  else if isKey ws 101 = true then { f with hyps := f.hyps ++ [gD ws 0], which := f.which ++ [-1 - (f.ess.length : Int)], ess := f.ess ++ [ws.drop 2] }
  else { f with goal := ws.drop 2 }
def formTo (L : List ByteArray) (k : Nat) : Fm := (L.take k).foldl (fun f x => stepF f (splitF x)) fm0
theorem formTo_next (L : List ByteArray) (k : Nat) (h : k < L.length) : formTo L (k + 1) = stepF (formTo L k) (splitF L[k]) := by
  unfold formTo; rw [take_snoc L k h, List.foldl_append]; rfl
def formF (L : List ByteArray) : Fm := formTo L L.length
/-- A line that a frame may have. -/
structure LineOk (lab : ByteArray) (last : Bool) (x : ByteArray) : Prop where
  size : x.size ≤ 1073741824
  len : 3 ≤ (splitF x).length
  way : isD (splitF x) = true ∨ (isD (splitF x) = false ∧ ((isKey (splitF x) 102 = true ∧ (splitF x).length = 4) ∨ (isKey (splitF x) 102 = false ∧ (isKey (splitF x) 101 = true ∨ (isKey (splitF x) 101 = false ∧ (isKey (splitF x) 97 = true ∨ isKey (splitF x) 112 = true) ∧ ((gD (splitF x) 0).toList == lab.toList) = true ∧ last = true)))))

def rowI (l : List Int) : Row := ⟨3, 1, l.length, l.map (Value.int .i64)⟩
theorem rowI_snoc (l : List Int) (x : Int) : (⟨(rowI l).e, (rowI l).size, (rowI l).n + 1, (rowI l).xs ++ [.int .i64 x]⟩ : Row) = rowI (l ++ [x]) := by simp [rowI]
def fmL (lab : ByteArray) (lv : Value) (f : Fm) (es : List Ex) (hg : Hd) (H : Nat → Hd) : List Value :=
  [.string lab, lv, .slice (H 0).ao f.hyps.length (H 0).cap, .slice (H 1).ao f.which.length (H 1).cap, .slice (H 2).ao f.vars.length (H 2).cap, .slice (H 3).ao f.types.length (H 3).cap, .slice (H 4).ao es.length (H 4).cap, .slice (H 5).ao f.left.length (H 5).cap, .slice (H 6).ao f.right.length (H 6).cap, .slice hg.ao f.goal.length hg.cap]
def fmR (f : Fm) (es : List Ex) : Nat → Row
  | 0 => rowS f.hyps
  | 1 => rowI f.which
  | 2 => rowS f.vars
  | 3 => rowS f.types
  | 4 => rowE es
  | 5 => rowS f.left
  | 6 => rowS f.right
  | _ + 7 => rowS []
/-- The form in memory; all of it lies from block n on. -/
structure FmIs (w : World) (F n : Nat) (lab : ByteArray) (lv : Value) (f : Fm) (es : List Ex) (hg : Hd) (H : Nat → Hd) : Prop where
  bag : BagIs w F 67 (fmL lab lv f es hg H) (fmR f es) H
  new : n ≤ F ∧ ∀ k, InH H k → n ≤ k
  exs : ∀ e ∈ es, ExOk w F H e
  ess : es.map (·.xs) = f.ess
  gl : View w hg f.goal ∧ ∀ x, hg.blk = some x → x < w.heap.size ∧ x ≠ F ∧ ¬ InH H x
theorem FmIs.still {w w' : World} {F n : Nat} {lab : ByteArray} {lv : Value} {f : Fm} {es : List Ex} {hg : Hd} {H : Nat → Hd} (h : FmIs w F n lab lv f es hg H) (k : Kept [] w w') : FmIs w' F n lab lv f es hg H :=
  ⟨h.bag.still k, h.new, fun e he => (h.exs e he).still k, h.ess, h.gl.1.still k, fun x hx => ⟨Nat.lt_of_lt_of_le (h.gl.2 x hx).1 k.size, (h.gl.2 x hx).2⟩⟩
/-- Behind an append to a list of the form's. -/
theorem FmIs.app {w w1 : World} {F n : Nat} {lab : ByteArray} {lv : Value} {f f' : Fm} {es es' : List Ex} {hg : Hd} {H : Nat → Hd} (h : FmIs w F n lab lv f es hg H) (hn : n ≤ w.heap.size) (c i g cap' m : Nat) (r : Row)
    (hw1 : Owns w1 ⟨some ⟨g, 0, none⟩, cap'⟩ r) (hr : r = fmR f' es' i) (hgr : w.grownBy w1 (H i).blk) (hfresh : (H i).blk = some g ∨ w.heap.size ≤ g)
    (hrow : ∀ j, j ≠ i → fmR f' es' j = fmR f es j) (v0 : Value) (hv : (fmL lab lv f es hg H)[c]? = some v0) (hl : (fmL lab lv f es hg H).set c (.slice (some ⟨g, 0, none⟩) m cap') = fmL lab lv f' es' hg (upd H i ⟨some ⟨g, 0, none⟩, cap'⟩))
    (hex : ∀ e ∈ es', ExOk w F H e) (hes : es'.map (·.xs) = f'.ess) (hgo : f'.goal = f.goal) :
    w1.cell? ⟨F, c, none⟩ = some v0 ∧ w1.frozen? ⟨F, c, none⟩ = false ∧
    Hid (FmIs (w1.setCell ⟨F, c, none⟩ (.slice (some ⟨g, 0, none⟩) m cap')) F n lab lv f' es' hg (upd H i ⟨some ⟨g, 0, none⟩, cap'⟩) ∧
      Turned F w H (w1.setCell ⟨F, c, none⟩ (.slice (some ⟨g, 0, none⟩) m cap')) (upd H i ⟨some ⟨g, 0, none⟩, cap'⟩)) := by
  obtain ⟨a1, a2, a3⟩ := h.bag.app (rows' := fmR f' es') c i g cap' m r hw1 hr hgr hfresh hrow v0 hv hl
  obtain ⟨b1, b2⟩ := a3.out
  refine ⟨a1, a2, ⟨⟨b1, ⟨h.new.1, ?_⟩, fun e he => (hex e he).turned b2, hes, ?_, ?_⟩, b2⟩⟩
  · intro k hk
    rcases b2.2 k hk with hk | hk
    · exact h.new.2 k hk
    · omega
  · rw [hgo]
    refine h.gl.1.keptP b2.1 (fun x hx => ?_)
    obtain ⟨_, h2, h3⟩ := h.gl.2 x hx
    rintro (e | e)
    · exact h2 e
    · exact h3 e
  · intro x hx
    obtain ⟨h1, h2, h3⟩ := h.gl.2 x hx
    exact ⟨Nat.lt_of_lt_of_le h1 b2.1.size, h2, b2.fresh x h1 h3⟩
/-- What such an append leaves of what was there ahead of the form. -/
theorem Kept.turned {w w1 w2 : World} {F : Nat} {H H' : Nat → Hd} (k : Kept [] w w1) (t : Turned F w1 H w2 H') (hF : w.heap.size ≤ F) (hH : ∀ x, InH H x → w.heap.size ≤ x) : Kept [] w w2 :=
  ⟨t.1.os.trans k.os, t.1.tape.trans k.tape, t.1.output.trans k.output, Nat.le_trans k.size t.1.size, fun i hi _ => (t.1.block i (Nat.lt_of_lt_of_le hi k.size) (fun q => q.elim (fun e => by omega) (fun e => by have := hH i e; omega))).trans (k.block i hi (by simp))⟩
/-- Behind the goal. -/
theorem FmIs.goal {w : World} {F n : Nat} {lab : ByteArray} {lv : Value} {f : Fm} {es : List Ex} {hg : Hd} {H : Nat → Hd} (h : FmIs w F n lab lv f es hg H) (g' : List ByteArray) (hg' : Hd) (hv : View w hg' g') (hf : ∀ x, hg'.blk = some x → x < w.heap.size ∧ x ≠ F ∧ ¬ InH H x) :
    FmIs (w.setCell ⟨F, 9, none⟩ (.slice hg'.ao g'.length hg'.cap)) F n lab lv { f with goal := g' } es hg' H ∧ Turned F w H (w.setCell ⟨F, 9, none⟩ (.slice hg'.ao g'.length hg'.cap)) H := by
  obtain ⟨b1, b2⟩ := h.bag.set 9 (.slice hg'.ao g'.length hg'.cap)
  refine ⟨⟨b1, h.new, fun e he => (h.exs e he).turned b2, h.ess, ?_, ?_⟩, b2⟩
  · refine hv.keptP b2.1 (fun x hx => ?_)
    obtain ⟨_, h2, h3⟩ := hf x hx
    rintro (e | e)
    · exact h2 e
    · exact h3 e
  · intro x hx
    obtain ⟨h1, h2, h3⟩ := hf x hx
    exact ⟨Nat.lt_of_lt_of_le h1 b2.1.size, h2, h3⟩

/-- The form, its lines and the words of a line, on the way. -/
structure FmSt (w0 w : World) (F g : Nat) (lab : ByteArray) (L : List ByteArray) (f : Fm) (es : List Ex) (hg : Hd) (H : Nat → Hd) (gt tc : Nat) (ws : List ByteArray) : Prop where
  fm : FmIs w F w0.heap.size lab (.slice (some ⟨g, 0, none⟩) L.length L.length) f es hg H
  lns : LnsAt w g L L.length
  gf : w0.heap.size ≤ g ∧ g ≠ F ∧ ¬ InH H g
  tw : Owns w ⟨some ⟨gt, 0, none⟩, tc⟩ (rowS ws)
  tf : gt ≠ F ∧ ¬ InH H gt
  kept : Kept [] w0 w
theorem FmSt.still {w0 w w' : World} {F g : Nat} {lab : ByteArray} {L : List ByteArray} {f : Fm} {es : List Ex} {hg : Hd} {H : Nat → Hd} {gt tc : Nat} {ws : List ByteArray} (h : FmSt w0 w F g lab L f es hg H gt tc ws) (k : Kept [] w w') : FmSt w0 w' F g lab L f es hg H gt tc ws :=
  ⟨h.fm.still k, h.lns.kept k (by simp), h.gf, h.tw.moved (fun x hx => k.block x (h.tw.lt hx) (by simp)), h.tf, h.kept.trans k⟩
theorem FmSt.turn {w0 w w' : World} {F g : Nat} {lab : ByteArray} {L : List ByteArray} {f f' : Fm} {es es' : List Ex} {hg hg' : Hd} {H H' : Nat → Hd} {gt tc : Nat} {ws : List ByteArray} (h : FmSt w0 w F g lab L f es hg H gt tc ws)
    (b : FmIs w' F w0.heap.size lab (.slice (some ⟨g, 0, none⟩) L.length L.length) f' es' hg' H') (t : Turned F w H w' H') : FmSt w0 w' F g lab L f' es' hg' H' gt tc ws := by
  have hgl := lt_of_get h.lns
  have htl := h.tw.lt (k := gt) rfl
  refine ⟨b, ?_, ⟨h.gf.1, h.gf.2.1, t.fresh g hgl h.gf.2.2⟩, ?_, ⟨h.tf.1, t.fresh gt htl h.tf.2⟩, h.kept.turned t h.fm.new.1 h.fm.new.2⟩
  · exact t.1.get h.lns (by rintro (e | e); exact h.gf.2.1 e; exact h.gf.2.2 e)
  · refine h.tw.moved (fun x hx => t.1.block x (h.tw.lt hx) ?_)
    have e : x = gt := by simp [Hd.blk] at hx; exact hx.symm
    subst e
    rintro (e | e)
    · exact h.tf.1 e
    · exact h.tf.2 e
theorem FmSt.app {w0 w w1 : World} {F g : Nat} {lab : ByteArray} {L : List ByteArray} {f f' : Fm} {es es' : List Ex} {hg : Hd} {H : Nat → Hd} {gt tc : Nat} {ws : List ByteArray} (h : FmSt w0 w F g lab L f es hg H gt tc ws) (c i g5 cap' m : Nat) (r : Row)
    (hw1 : Owns w1 ⟨some ⟨g5, 0, none⟩, cap'⟩ r) (hr : r = fmR f' es' i) (hgr : w.grownBy w1 (H i).blk) (hfresh : (H i).blk = some g5 ∨ w.heap.size ≤ g5)
    (hrow : ∀ j, j ≠ i → fmR f' es' j = fmR f es j) (v0 : Value) (hv : (fmL lab (.slice (some ⟨g, 0, none⟩) L.length L.length) f es hg H)[c]? = some v0) (hl : (fmL lab (.slice (some ⟨g, 0, none⟩) L.length L.length) f es hg H).set c (.slice (some ⟨g5, 0, none⟩) m cap') = fmL lab (.slice (some ⟨g, 0, none⟩) L.length L.length) f' es' hg (upd H i ⟨some ⟨g5, 0, none⟩, cap'⟩))
    (hex : ∀ e ∈ es', ExOk w F H e) (hes : es'.map (·.xs) = f'.ess) (hgo : f'.goal = f.goal) :
    w1.cell? ⟨F, c, none⟩ = some v0 ∧ w1.frozen? ⟨F, c, none⟩ = false ∧
    Hid (FmSt w0 (w1.setCell ⟨F, c, none⟩ (.slice (some ⟨g5, 0, none⟩) m cap')) F g lab L f' es' hg (upd H i ⟨some ⟨g5, 0, none⟩, cap'⟩) gt tc ws) := by
  obtain ⟨a1, a2, a3⟩ := h.fm.app h.kept.size c i g5 cap' m r hw1 hr hgr hfresh hrow v0 hv hl hex hes hgo
  exact ⟨a1, a2, h.turn a3.out.1 a3.out.2⟩
theorem FmSt.word {w0 w : World} {F g : Nat} {lab : ByteArray} {L : List ByteArray} {f : Fm} {es : List Ex} {hg : Hd} {H : Nat → Hd} {gt tc : Nat} {ws : List ByteArray} (h : FmSt w0 w F g lab L f es hg H gt tc ws) (j : Nat) (x : ByteArray) (hj : ws[j]? = some x) : w.cell? ⟨gt, j, none⟩ = some (.string x) :=
  h.tw.cell rfl j (.string x) (by simp [rowS, strs, hj])
theorem FmSt.cell {w0 w : World} {F g : Nat} {lab : ByteArray} {L : List ByteArray} {f : Fm} {es : List Ex} {hg : Hd} {H : Nat → Hd} {gt tc : Nat} {ws : List ByteArray} (h : FmSt w0 w F g lab L f es hg H gt tc ws) (i : Nat) (v : Value) (hv : (fmL lab (.slice (some ⟨g, 0, none⟩) L.length L.length) f es hg H)[i]? = some v) : w.cell? ⟨F, i, none⟩ = some v := by
  rw [h.fm.bag.cell]; exact hv
theorem FmSt.lts {w0 w : World} {F g : Nat} {lab : ByteArray} {L : List ByteArray} {f : Fm} {es : List Ex} {hg : Hd} {H : Nat → Hd} {gt tc : Nat} {ws : List ByteArray} (h : FmSt w0 w F g lab L f es hg H gt tc ws) : F < w.heap.size ∧ gt < w.heap.size ∧ g < w.heap.size := ⟨h.fm.bag.lt, h.tw.lt (k := gt) rfl, lt_of_get h.lns⟩
/-- The words behind the first two. -/
theorem FmSt.rest {w0 w : World} {F g : Nat} {lab : ByteArray} {L : List ByteArray} {f : Fm} {es : List Ex} {hg : Hd} {H : Nat → Hd} {gt tc : Nat} {ws : List ByteArray} (h : FmSt w0 w F g lab L f es hg H gt tc ws) : ExOk w F H ⟨⟨some ⟨gt, 2, none⟩, tc - 2⟩, ws.drop 2⟩ := by
  have hv := h.tw.view
  refine ⟨?_, ⟨_, rfl⟩, fun x hx => ?_⟩
  · rcases hv with hn | ⟨g', off, cur, t, e1, e2, e3, e4, e5⟩
    · left; rw [hn]; rfl
    · right
      cases e1
      refine ⟨gt, 2, cur, t, rfl, e2, ?_, ?_, ?_⟩
      · intro j x hj
        rw [List.getElem?_drop] at hj
        have := e3 (2 + j) x hj
        rw [Nat.zero_add] at this
        exact this
      · simp only [List.length_drop]
        have : ws.length ≤ tc := e4
        omega
      · have : tc ≤ 9223372036854775807 := e5
        show tc - 2 ≤ _
        omega
  · have e : x = gt := by simp [Hd.blk] at hx; exact hx.symm
    subst e
    exact ⟨h.lts.2.1, h.tf⟩
theorem build_form (w : World) (s : ByteArray) : (Instr.build 67 #[(0, .string s)]).run Tryz.prog w = .ok (.agg #[.string s, .slice none 0 0, .slice none 0 0, .slice none 0 0, .slice none 0 0, .slice none 0 0, .slice none 0 0, .slice none 0 0, .slice none 0 0, .slice none 0 0]) w :=
  run_build w 67 _ _ (by kernel_rfl)

end Go.Proofs.YtcipkfhpcbddiaaGreat

/- The lines of a frame, read as a form: what a record of names gives. No walk. -/
namespace Go.Proofs.YtcipkfhpcbddiaaGreat
open Go.RowKit

/-- A word that is not long. -/
def WdS (x : ByteArray) : Prop := Wd x ∧ x.size ≤ 1024
theorem rdM_nmS (T : ByteArray) (hT : T.size ≤ 1024) : Nm WdS (rdM T).2 := readTo_nm _ T (fun k hk h hd => ⟨nextF_wd T k hk h hd, nextF_text T k hT⟩) _ 0 _ (Nat.zero_le _) Nm.empty
theorem Nm.szs {d : Db} (h : Nm WdS d) : SzsOk d.sts := by
  intro s hs hk
  have hso := h.sts s hs
  have hl := hso.lab (hso.kind.resolve_left hk)
  exact ⟨by have := hl.1.2; omega, fun x hx => by have := (hso.syms x hx).2; omega⟩
theorem isD_of (a : ByteArray) (r : List ByteArray) (h : Wd a) : isD (a :: r) = false := h.notKey 100
theorem isD_pair (r : List ByteArray) : isD (⟨#[36, 100]⟩ :: r) = true := by
  show ((⟨#[36, 100]⟩ : ByteArray).toList == [36, 100]) = true
  rw [ByteArray.toList_eq]; rfl
theorem key_of (a : ByteArray) (k : Int) (r : List ByteArray) (c : UInt8) : isKey (a :: keyF k :: r) c = ((keyF k).toList == [36, c]) := rfl
theorem keyF_2 : keyF 2 = ⟨#[36, 102]⟩ := rfl
theorem keyF_3 : keyF 3 = ⟨#[36, 101]⟩ := rfl
theorem keyF_4 : keyF 4 = ⟨#[36, 97]⟩ := rfl
theorem keyF_5 : keyF 5 = ⟨#[36, 112]⟩ := rfl
theorem tl2 (c : UInt8) : (⟨#[36, c]⟩ : ByteArray).toList = [36, c] := by rw [ByteArray.toList_eq]
/-- A statement of the record as a line's words. -/
structure StW (s : St) : Prop where
  lab : Wd s.label
  syms : ∀ x ∈ s.symbols, Wd x
  pos : 0 < s.symbols.length
  two : s.kind = 2 → s.symbols.length = 2
  sz : (lineF s).size ≤ 1073741824
theorem Nm.stw {d : Db} (h : Nm WdS d) (hl : ∀ s ∈ d.sts, s.symbols.length ≤ 10000) (s : St) (hs : s ∈ d.sts) (hk : s.kind ≠ 1) : StW s := by
  have hso := h.sts s hs
  have hk2 := hso.kind.resolve_left hk
  obtain ⟨c, r, hc, -⟩ := hso.code hk2
  refine ⟨(hso.lab hk2).1.1, fun x hx => (hso.syms x hx).1, by rw [hc]; simp, hso.two, ?_⟩
  have := lineTo_size s (h.szs s hs hk) s.symbols.length (Nat.le_refl _)
  have hlen := hl s hs
  unfold lineF
  omega
theorem StW.split {s : St} (h : StW s) : splitF (lineF s) = s.label :: keyF s.kind :: s.symbols := split_line s h.lab.noBl (fun x hx => (h.syms x hx).noBl)

theorem pair_split (p : Pr) (h1 : NoBl p.1) (h2 : NoBl p.2) : splitF (pairLine p) = [⟨#[36, 100]⟩, p.1, p.2] := by
  have e : pairLine p = ⟨#[36, 100]⟩ ++ (⟨#[32]⟩ ++ p.1) ++ (⟨#[32]⟩ ++ p.2) := by
    unfold pairLine
    have e0 : (⟨#[36, 100, 32]⟩ : ByteArray) = ⟨#[36, 100]⟩ ++ ⟨#[32]⟩ := by decide +kernel
    rw [e0]
    simp only [ByteArray.append_assoc]
  rw [e, split_more _ _ h2, split_more _ _ h1, split_one]
  · rfl
  · intro i hi
    have h2 : i < 2 := hi
    match i, h2 with
    | 0, _ => decide +kernel
    | 1, _ => decide +kernel

theorem line_ok_hyp {s : St} (h : StW s) (hk : s.kind = 2 ∨ s.kind = 3) (lab : ByteArray) (last : Bool) : LineOk lab last (lineF s) := by
  have hs := h.split
  refine ⟨h.sz, by rw [hs]; have := h.pos; simp; omega, Or.inr ⟨by rw [hs]; exact isD_of _ _ h.lab, ?_⟩⟩
  rw [hs]
  simp only [key_of]
  rcases hk with hk | hk
  · left
    rw [hk, keyF_2, tl2]
    exact ⟨rfl, by have := h.two hk; simp [this]⟩
  · right
    rw [hk, keyF_3, tl2]
    exact ⟨by decide, Or.inl rfl⟩
theorem line_ok_own {s : St} (h : StW s) (hk : isA s.kind = true) (lab : ByteArray) (hl : s.label.toList = lab.toList) : LineOk lab true (lineF s) := by
  have hs := h.split
  refine ⟨h.sz, by rw [hs]; have := h.pos; simp; omega, Or.inr ⟨by rw [hs]; exact isD_of _ _ h.lab, Or.inr ?_⟩⟩
  rw [hs]
  simp only [key_of]
  have hk' : s.kind = 4 ∨ s.kind = 5 := by unfold isA at hk; simpa using hk
  rcases hk' with hk' | hk' <;> rw [hk']
  · rw [keyF_4, tl2]
    exact ⟨by decide, Or.inr ⟨by decide, Or.inl rfl, by show (s.label.toList == lab.toList) = true; rw [hl]; simp, by simp⟩⟩
  · rw [keyF_5, tl2]
    exact ⟨by decide, Or.inr ⟨by decide, Or.inr rfl, by show (s.label.toList == lab.toList) = true; rw [hl]; simp, by simp⟩⟩
theorem line_ok_pair (p : Pr) (h1 : NoBl p.1) (h2 : NoBl p.2) (hz : p.1.size ≤ 100000 ∧ p.2.size ≤ 100000) (lab : ByteArray) (last : Bool) : LineOk lab last (pairLine p) := by
  have hs := pair_split p h1 h2
  refine ⟨?_, by rw [hs]; simp, Or.inl (by rw [hs]; exact isD_pair _)⟩
  unfold pairLine
  simp only [ByteArray.size_append, d3_size, bl_size]
  omega

/-- The frame of an assertion, in a record of names. -/
structure FrOk (l : List St) (a : Nat) : Prop where
  ha : a < l.length
  isa : isA (l[a]'ha).kind = true
  own : StW (l[a]'ha)
  hyp : ∀ n ∈ hypsF l a, ∃ h : n < l.length, StW l[n] ∧ (l[n].kind = 2 ∨ l[n].kind = 3)
  prs : ∀ p ∈ pairsF l a, (NoBl p.1 ∧ NoBl p.2) ∧ p.1.size ≤ 100000 ∧ p.2.size ≤ 100000
theorem noBl_nil : NoBl ⟨#[]⟩ := fun i hi => absurd (show i < 0 from hi) (Nat.not_lt_zero i)
theorem gD_noBl (vs : List ByteArray) (i : Nat) (h : ∀ x ∈ vs, NoBl x) : NoBl (gD vs i) := by
  unfold gD
  rw [List.getD_eq_getElem?_getD]
  cases e : vs[i]? with
  | none => exact noBl_nil
  | some x => exact h x (List.mem_of_getElem? e)
theorem FrOk.of {d : Db} (h : Nm WdS d) (ok : RecOk d.sts) (a : Nat) (ha : a < d.sts.length) (hk : isA d.sts[a].kind = true) : FrOk d.sts a := by
  have hl : ∀ s ∈ d.sts, s.symbols.length ≤ 10000 := fun s hs => by obtain ⟨i, hi, rfl⟩ := List.getElem_of_mem hs; exact ok.syms i hi
  have hyp : ∀ n ∈ hypsF d.sts a, ∃ h : n < d.sts.length, StW d.sts[n] ∧ (d.sts[n].kind = 2 ∨ d.sts[n].kind = 3) := fun n hn => by
    have hnl := hyps_lt d.sts a n hn
    have hkn := kind_hyp d.sts a n hn hnl
    exact ⟨hnl, h.stw hl _ (List.getElem_mem hnl) (by omega), hkn⟩
  refine ⟨ha, hk, h.stw hl _ (List.getElem_mem ha) (by intro e; rw [e] at hk; revert hk; decide), hyp, fun p hp => ⟨?_, pairs_size d.sts a h.szs p hp⟩⟩
  have hv : ∀ x ∈ varsOfF d.sts (hypsF d.sts a), NoBl x := by
    intro x hx
    unfold varsOfF at hx
    obtain ⟨n, hn, he⟩ := List.mem_filterMap.1 hx
    obtain ⟨hnl, hst, -⟩ := hyp n hn
    unfold varOne at he
    rw [List.getElem?_eq_getElem hnl] at he
    simp only at he
    split at he
    · cases he
      unfold variableF
      split
      · next hc =>
        refine (hst.syms _ ?_).noBl
        rw [List.getD_eq_getElem?_getD, List.getElem?_eq_getElem (show 1 < d.sts[n].symbols.length by omega)]
        exact List.getElem_mem _
      · exact noBl_nil
    · cases he
  unfold pairsF prsF prTo at hp
  obtain ⟨i, -, hp⟩ := List.mem_flatMap.1 hp
  unfold prRow at hp
  obtain ⟨j, -, rfl⟩ := List.mem_map.1 hp
  exact ⟨gD_noBl _ _ hv, gD_noBl _ _ hv⟩

theorem get_of {L : List ByteArray} {k : Nat} {x : ByteArray} (h : L[k]? = some x) (hk : k < L.length) : L[k] = x := by
  rw [List.getElem?_eq_getElem hk] at h; exact Option.some.inj h
theorem lines_ok {l : List St} {a : Nat} (h : FrOk l a) (lab : ByteArray) (hl : (l[a]'h.ha).label.toList = lab.toList) (k : Nat) (hk : k < (linesF l a).length) : LineOk lab (decide (k + 1 = (linesF l a).length)) (linesF l a)[k] := by
  have hlen := lines_len l a
  by_cases h1 : k < (hypsF l a).length
  · obtain ⟨hq, hst, hkn⟩ := h.hyp _ (List.getElem_mem h1)
    rw [get_of (lines_hyp l a k h1 hq) hk]
    exact line_ok_hyp hst hkn _ _
  · by_cases h2 : k < (hypsF l a).length + (pairsF l a).length
    · obtain ⟨j, rfl⟩ : ∃ j, k = (hypsF l a).length + j := ⟨k - (hypsF l a).length, by omega⟩
      rw [get_of (lines_pair l a j (by omega)) hk]
      obtain ⟨⟨b1, b2⟩, b3⟩ := h.prs _ (List.getElem_mem (show j < (pairsF l a).length by omega))
      exact line_ok_pair _ b1 b2 b3 _ _
    · have e : k = (hypsF l a).length + (pairsF l a).length := by omega
      subst e
      rw [get_of (lines_last l a h.ha) hk, decide_eq_true (by omega)]
      exact line_ok_own h.own h.isa lab hl

def labN (l : List St) (n : Nat) : ByteArray := match l[n]? with | some s => s.label | none => ⟨#[]⟩
theorem step_hyp {s : St} (h : StW s) (hk : s.kind = 2 ∨ s.kind = 3) (f : Fm) : (stepF f (splitF (lineF s))).hyps = f.hyps ++ [s.label] ∧ (stepF f (splitF (lineF s))).goal = f.goal := by
  rw [h.split]
  have hd := isD_of s.label (keyF s.kind :: s.symbols) h.lab
  rcases hk with hk | hk
  · have h2 := h.two hk
    have k1 : isKey (s.label :: keyF s.kind :: s.symbols) 102 = true := by rw [key_of, hk, keyF_2, tl2]; rfl
    unfold stepF
    rw [if_neg (by rw [hd]; simp), if_pos ⟨k1, by simp [h2]⟩]
    exact ⟨rfl, rfl⟩
  · have k1 : isKey (s.label :: keyF s.kind :: s.symbols) 102 = false := by rw [key_of, hk, keyF_3, tl2]; decide
    have k2 : isKey (s.label :: keyF s.kind :: s.symbols) 101 = true := by rw [key_of, hk, keyF_3, tl2]; rfl
    unfold stepF
    rw [if_neg (by rw [hd]; simp), if_neg (by rw [k1]; simp), if_pos k2]
    exact ⟨rfl, rfl⟩
theorem step_pair (p : Pr) (h1 : NoBl p.1) (h2 : NoBl p.2) (f : Fm) : (stepF f (splitF (pairLine p))).hyps = f.hyps ∧ (stepF f (splitF (pairLine p))).goal = f.goal := by
  rw [pair_split p h1 h2]
  unfold stepF
  rw [if_pos (isD_pair _)]
  exact ⟨rfl, rfl⟩
theorem step_own {s : St} (h : StW s) (hk : isA s.kind = true) (f : Fm) : (stepF f (splitF (lineF s))).hyps = f.hyps ∧ (stepF f (splitF (lineF s))).goal = s.symbols := by
  rw [h.split]
  have hd := isD_of s.label (keyF s.kind :: s.symbols) h.lab
  have hk' : s.kind = 4 ∨ s.kind = 5 := by unfold isA at hk; simpa using hk
  have k1 : isKey (s.label :: keyF s.kind :: s.symbols) 102 = false := by
    rw [key_of]
    rcases hk' with e | e <;> rw [e]
    · rw [keyF_4, tl2]; decide
    · rw [keyF_5, tl2]; decide
  have k2 : isKey (s.label :: keyF s.kind :: s.symbols) 101 = false := by
    rw [key_of]
    rcases hk' with e | e <;> rw [e]
    · rw [keyF_4, tl2]; decide
    · rw [keyF_5, tl2]; decide
  unfold stepF
  rw [if_neg (by rw [hd]; simp), if_neg (by rw [k1]; simp), if_neg (by rw [k2]; simp)]
  exact ⟨rfl, rfl⟩
theorem fold_hyps (l : List St) (hs : List Nat) (h : ∀ n ∈ hs, ∃ h : n < l.length, StW l[n] ∧ (l[n].kind = 2 ∨ l[n].kind = 3)) (f : Fm) :
    ((hs.map (lineN l)).foldl (fun f x => stepF f (splitF x)) f).hyps = f.hyps ++ hs.map (labN l) ∧ ((hs.map (lineN l)).foldl (fun f x => stepF f (splitF x)) f).goal = f.goal := by
  induction hs generalizing f with
  | nil => simp
  | cons n hs ih =>
    obtain ⟨hn, hst, hk⟩ := h n (by simp)
    have e1 : lineN l n = lineF l[n] := by unfold lineN; rw [List.getElem?_eq_getElem hn]
    have e2 : labN l n = l[n].label := by unfold labN; rw [List.getElem?_eq_getElem hn]
    simp only [List.map_cons, List.foldl_cons]
    obtain ⟨i1, i2⟩ := ih (fun n hn => h n (List.mem_cons_of_mem _ hn)) (stepF f (splitF (lineN l n)))
    rw [i1, i2, e1, e2, (step_hyp hst hk f).1, (step_hyp hst hk f).2]
    simp
theorem fold_pairs (ps : List Pr) (h : ∀ p ∈ ps, NoBl p.1 ∧ NoBl p.2) (f : Fm) : ((ps.map pairLine).foldl (fun f x => stepF f (splitF x)) f).hyps = f.hyps ∧ ((ps.map pairLine).foldl (fun f x => stepF f (splitF x)) f).goal = f.goal := by
  induction ps generalizing f with
  | nil => simp
  | cons p ps ih =>
    simp only [List.map_cons, List.foldl_cons]
    obtain ⟨i1, i2⟩ := ih (fun n hn => h n (List.mem_cons_of_mem _ hn)) (stepF f (splitF (pairLine p)))
    have hp := h p (by simp)
    rw [i1, i2, (step_pair p hp.1 hp.2 f).1, (step_pair p hp.1 hp.2 f).2]
    exact ⟨rfl, rfl⟩
theorem form_is {l : List St} {a : Nat} (h : FrOk l a) : (formF (linesF l a)).hyps = (hypsF l a).map (labN l) ∧ (formF (linesF l a)).goal = (l[a]'h.ha).symbols := by
  unfold formF formTo
  rw [List.take_length]
  unfold linesF
  rw [List.foldl_append, List.foldl_append]
  have e1 : lineN l a = lineF (l[a]'h.ha) := by unfold lineN; rw [List.getElem?_eq_getElem h.ha]
  simp only [List.foldl_cons, List.foldl_nil, e1]
  obtain ⟨h1, h2⟩ := fold_hyps l (hypsF l a) h.hyp fm0
  obtain ⟨p1, p2⟩ := fold_pairs (pairsF l a) (fun p hp => (h.prs p hp).1) (((hypsF l a).map (lineN l)).foldl (fun f x => stepF f (splitF x)) fm0)
  obtain ⟨o1, o2⟩ := step_own h.own h.isa (((pairsF l a).map pairLine).foldl (fun f x => stepF f (splitF x)) (((hypsF l a).map (lineN l)).foldl (fun f x => stepF f (splitF x)) fm0))
  rw [o1, o2, p1, h1]
  exact ⟨by simp [fm0], rfl⟩

end Go.Proofs.YtcipkfhpcbddiaaGreat

/- Names that a text does not hold; numbers in digits. No walk. -/
namespace Go.Proofs.YtcipkfhpcbddiaaGreat
open Go.RowKit

/-- u stands somewhere in T. -/
def InT (T u : ByteArray) : Prop := ∃ a, a + u.size ≤ T.size ∧ ∀ i, i < u.size → byteAt T (a + i) = byteAt u i
theorem InT.pre {T z y : ByteArray} (h : InT T (z ++ y)) : InT T z := by
  obtain ⟨a, h1, h2⟩ := h
  rw [ByteArray.size_append] at h1
  refine ⟨a, by omega, fun i hi => ?_⟩
  rw [h2 i (by rw [ByteArray.size_append]; omega), byteAt_append_left _ _ _ hi]
theorem InT.cut (T : ByteArray) (a z : Nat) (hz : z ≤ T.size) : InT T (T.extract a z) := by
  refine ⟨min a z, ?_, ?_⟩
  · rw [ByteArray.size_extract]; omega
  · intro i hi
    rw [ByteArray.size_extract] at hi
    rw [byteAt_extract T a z i hz (by omega), Nat.min_eq_left (by omega)]
/-- A word of a text, as a name. -/
def WdT (T x : ByteArray) : Prop := WdS x ∧ InT T x
theorem rdM_nmT (T : ByteArray) (hT : T.size ≤ 1024) : Nm (WdT T) (rdM T).2 := readTo_nm _ T (fun k hk h hd => ⟨⟨nextF_wd T k hk h hd, nextF_text T k hT⟩, by
  obtain ⟨a, z, hz, he⟩ := nextF_cut T k hk h
  rw [he]; exact InT.cut T a z hz⟩) _ 0 _ (Nat.zero_le _) Nm.empty
theorem fresh_has {T z : ByteArray} (hz : ¬ InT T z) (l : List ByteArray) (hl : ∀ x ∈ l, InT T x) (y : ByteArray) : hasF l (z ++ y) = false := by
  unfold hasF
  rw [List.any_eq_false]
  intro x hx he
  have e := bytes_eq he
  exact hz (InT.pre (y := y) (e ▸ hl x hx))
theorem app_beq (z a b : ByteArray) : ((z ++ a).toList == (z ++ b).toList) = (a.toList == b.toList) := by
  simp only [ByteArray.toList_eq, ByteArray.data_append, Array.toList_append]
  rw [Bool.eq_iff_iff]
  simp

/-- Decimal digits. -/
def digB (n : Nat) : ByteArray := ⟨#[UInt8.ofNat (48 + n % 10)]⟩
def digGo : Nat → Nat → ByteArray → ByteArray
  | 0, _, s => s
  | f + 1, n, s => if 0 < n then digGo f (n / 10) (digB n ++ s) else s
def digF (n : Nat) : ByteArray := digGo 20 (n / 10) (digB n)
def decF (s : ByteArray) : Nat := s.toList.foldl (fun a b => a * 10 + (b.toNat - 48)) 0
def isDigs (s : ByteArray) : Bool := s.toList.all (fun b => decide (48 ≤ b.toNat) && decide (b.toNat ≤ 57)) && decide (0 < s.size) && decide (s.size ≤ 4)
theorem dig_all : (List.range 1025).all (fun n => (decF (digF n) == n) && isDigs (digF n)) = true := by decide +kernel
theorem dig_ok (n : Nat) (h : n ≤ 1024) : decF (digF n) = n ∧ isDigs (digF n) = true := by
  have := List.all_eq_true.1 dig_all n (List.mem_range.2 (by omega))
  simpa using this
theorem dig_inj (n m : Nat) (hn : n ≤ 1024) (hm : m ≤ 1024) (h : digF n = digF m) : n = m := by
  rw [← (dig_ok n hn).1, ← (dig_ok m hm).1, h]
theorem dig_byte (n : Nat) (hn : n ≤ 1024) (i : Nat) (hi : i < (digF n).size) : 48 ≤ byteAt (digF n) i ∧ byteAt (digF n) i ≤ 57 := by
  have h := (dig_ok n hn).2
  unfold isDigs at h
  simp only [Bool.and_eq_true, decide_eq_true_eq] at h
  have hm := List.all_eq_true.1 h.1.1 (digF n)[i] (by rw [ByteArray.toList_eq]; exact Array.getElem_mem_toList _)
  simp only [Bool.and_eq_true, decide_eq_true_eq] at hm
  rw [byteAt_of _ _ hi]
  omega
theorem dig_size (n : Nat) (hn : n ≤ 1024) : 0 < (digF n).size ∧ (digF n).size ≤ 4 := by
  have h := (dig_ok n hn).2
  unfold isDigs at h
  simp only [Bool.and_eq_true, decide_eq_true_eq] at h
  exact ⟨h.1.2, h.2⟩
/-- The n-th beginning of names. -/
def zF (n : Nat) : ByteArray := ⟨#[122]⟩ ++ digF n ++ ⟨#[122]⟩
theorem z1_size : (⟨#[122]⟩ : ByteArray).size = 1 := rfl
theorem zF_size (n : Nat) : (zF n).size = (digF n).size + 2 := by unfold zF; rw [ByteArray.size_append, ByteArray.size_append, z1_size]; omega
theorem zF_byte (n : Nat) : byteAt (zF n) 0 = 122 ∧ (∀ i, i < (digF n).size → byteAt (zF n) (1 + i) = byteAt (digF n) i) ∧ byteAt (zF n) (1 + (digF n).size) = 122 := by
  unfold zF
  refine ⟨?_, ?_, ?_⟩
  · rw [byteAt_append_left _ _ 0 (by rw [ByteArray.size_append, z1_size]; omega), byteAt_append_left _ _ 0 (by rw [z1_size]; omega)]
    decide +kernel
  · intro i hi
    rw [byteAt_append_left _ _ _ (by rw [ByteArray.size_append, z1_size]; omega)]
    have := byteAt_append_right ⟨#[122]⟩ (digF n) i hi
    rw [z1_size] at this; exact this
  · have := byteAt_append_right (⟨#[122]⟩ ++ digF n) ⟨#[122]⟩ 0 (by rw [z1_size]; omega)
    rw [Nat.add_zero, ByteArray.size_append, z1_size] at this
    rw [this]; decide +kernel
theorem zF_same (T : ByteArray) (n m a : Nat) (hn : n ≤ 1024) (hm : m ≤ 1024) (h1 : ∀ i, i < (zF n).size → byteAt T (a + i) = byteAt (zF n) i) (h2 : ∀ i, i < (zF m).size → byteAt T (a + i) = byteAt (zF m) i) : n = m := by
  have sn := zF_size n
  have sm := zF_size m
  obtain ⟨-, n2, n3⟩ := zF_byte n
  obtain ⟨-, m2, m3⟩ := zF_byte m
  have hsz : (digF n).size = (digF m).size := by
    rcases Nat.lt_trichotomy (digF n).size (digF m).size with h | h | h
    · exfalso
      have e1 := h1 (1 + (digF n).size) (by omega)
      have e2 := h2 (1 + (digF n).size) (by omega)
      rw [n3] at e1
      rw [m2 _ h] at e2
      have := dig_byte m hm _ h
      omega
    · exact h
    · exfalso
      have e1 := h1 (1 + (digF m).size) (by omega)
      have e2 := h2 (1 + (digF m).size) (by omega)
      rw [m3] at e2
      rw [n2 _ h] at e1
      have := dig_byte n hn _ h
      omega
  refine dig_inj n m hn hm ?_
  apply ByteArray.ext_getElem hsz
  intro i hi hj
  have e1 := h1 (1 + i) (by omega)
  have e2 := h2 (1 + i) (by omega)
  rw [n2 i hi] at e1
  rw [m2 i hj] at e2
  rw [byteAt_of _ _ hi] at e1
  rw [byteAt_of _ _ hj] at e2
  exact UInt8.toNat_inj.1 (by omega)

theorem nodup_bound (n : Nat) : ∀ l : List Nat, l.Nodup → (∀ x ∈ l, x < n) → l.length ≤ n := by
  induction n with
  | zero =>
    intro l _ h
    cases l with
    | nil => exact Nat.le_refl _
    | cons a l => exact absurd (h a (by simp)) (Nat.not_lt_zero _)
  | succ n ih =>
    intro l hn h
    by_cases hm : n ∈ l
    · have h1 := ih (l.erase n) (hn.erase n) (fun x hx => by
        have hx2 := (List.Nodup.mem_erase_iff hn).1 hx
        have := h x hx2.2
        omega)
      rw [List.length_erase_of_mem hm] at h1
      omega
    · have := ih l hn (fun x hx => by
        have := h x hx
        have : x ≠ n := by rintro rfl; exact hm hx
        omega)
      omega
/-- Some beginning is not in the text. -/
theorem fresh_ex (T : ByteArray) (hT : T.size ≤ 1024) (h : ∀ n, n ≤ T.size → InT T (zF n)) : False := by
  have hex : ∀ n, ∃ a, n ≤ T.size → a < T.size ∧ ∀ i, i < (zF n).size → byteAt T (a + i) = byteAt (zF n) i := by
    intro n
    by_cases hn : n ≤ T.size
    · obtain ⟨a, h1, h2⟩ := h n hn
      have := zF_size n
      exact ⟨a, fun _ => ⟨by omega, h2⟩⟩
    · exact ⟨0, fun h => absurd h hn⟩
  obtain ⟨f, hf⟩ : ∃ f : Nat → Nat, ∀ n, n ≤ T.size → f n < T.size ∧ ∀ i, i < (zF n).size → byteAt T (f n + i) = byteAt (zF n) i := ⟨fun n => Classical.choose (hex n), fun n => Classical.choose_spec (hex n)⟩
  have hl : ((List.range (T.size + 1)).map f).Nodup := by
    rw [List.nodup_iff_pairwise_ne, List.pairwise_map]
    refine List.Pairwise.imp_of_mem ?_ (List.nodup_range (n := T.size + 1))
    intro a b ha hb hab e
    have ha' := List.mem_range.1 ha
    have hb' := List.mem_range.1 hb
    exact hab (zF_same T a b (f a) (by omega) (by omega) (hf a (by omega)).2 (by rw [e]; exact (hf b (by omega)).2))
  have := nodup_bound T.size _ hl (fun x hx => by
    obtain ⟨n, hn, rfl⟩ := List.mem_map.1 hx
    exact (hf n (by have := List.mem_range.1 hn; omega)).1)
  simp at this
  omega
theorem zF_wd (n : Nat) (hn : n ≤ 1024) (y : ByteArray) (hy : ∀ i, i < y.size → plainB (byteAt y i) = true ∧ byteAt y i ≠ 36 ∧ labelB (byteAt y i) = true) : Wd (zF n ++ y) ∧ isLabelF (zF n ++ y) = true := by
  have sz := zF_size n
  obtain ⟨b0, b1, b2⟩ := zF_byte n
  have hb : ∀ i, i < (zF n ++ y).size → plainB (byteAt (zF n ++ y) i) = true ∧ byteAt (zF n ++ y) i ≠ 36 ∧ labelB (byteAt (zF n ++ y) i) = true := by
    intro i hi
    by_cases h : i < (zF n).size
    · rw [byteAt_append_left _ _ _ h]
      have hv : byteAt (zF n) i = 122 ∨ (48 ≤ byteAt (zF n) i ∧ byteAt (zF n) i ≤ 57) := by
        by_cases h0 : i = 0
        · subst h0; left; exact b0
        · by_cases h1 : i = 1 + (digF n).size
          · subst h1; left; exact b2
          · right
            have := b1 (i - 1) (by omega)
            rw [show 1 + (i - 1) = i by omega] at this
            rw [this]
            exact dig_byte n hn _ (by omega)
      generalize byteAt (zF n) i = v at hv
      unfold plainB labelB
      rcases hv with rfl | hv
      · decide
      · refine ⟨by simp; omega, by omega, ?_⟩
        simp; omega
    · obtain ⟨j, rfl⟩ : ∃ j, i = (zF n).size + j := ⟨i - (zF n).size, by omega⟩
      rw [ByteArray.size_append] at hi
      rw [byteAt_append_right _ _ _ (by omega)]
      exact hy j (by omega)
  refine ⟨⟨by rw [ByteArray.size_append]; omega, fun i hi => ⟨(hb i hi).1, (hb i hi).2.1⟩⟩, ?_⟩
  unfold isLabelF
  rw [List.all_eq_true]
  intro i hi
  exact (hb i (List.mem_range.1 hi)).2.2

end Go.Proofs.YtcipkfhpcbddiaaGreat

/- The text of outer: what is read of it, and its frame. No walk. -/
namespace Go.Proofs.YtcipkfhpcbddiaaGreat
open Go.RowKit

theorem holds_blank (A c : ByteArray) (b : UInt8) (hb : b = 10 ∨ b = 32) (h1 : holdsF A = false) (h2 : holdsF c = false) : holdsF (A ++ ⟨#[b]⟩ ++ c) = false := by
  rw [holds_iff] at h1 h2 ⊢
  have s1 : (⟨#[b]⟩ : ByteArray).size = 1 := rfl
  have sz : (A ++ ⟨#[b]⟩ ++ c).size = A.size + 1 + c.size := by rw [ByteArray.size_append, ByteArray.size_append, s1]
  have left : ∀ i, i < A.size → byteAt (A ++ ⟨#[b]⟩ ++ c) i = byteAt A i := fun i hi => by
    rw [byteAt_append_left _ _ _ (by rw [ByteArray.size_append, s1]; omega), byteAt_append_left _ _ _ hi]
  have mid : byteAt (A ++ ⟨#[b]⟩ ++ c) A.size = (b.toNat : Int) := by
    rw [byteAt_append_left _ _ _ (by rw [ByteArray.size_append, s1]; omega)]
    have := byteAt_append_right A ⟨#[b]⟩ 0 (by rw [s1]; omega)
    rw [Nat.add_zero] at this
    rw [this]; rfl
  have right : ∀ i, i < c.size → byteAt (A ++ ⟨#[b]⟩ ++ c) (A.size + 1 + i) = byteAt c i := fun i hi => by
    have := byteAt_append_right (A ++ ⟨#[b]⟩) c i hi
    rw [ByteArray.size_append, s1] at this; exact this
  have hbn : (b.toNat : Int) ≠ 36 ∧ (b.toNat : Int) ≠ 91 := by rcases hb with rfl | rfl <;> decide
  rintro i hi ⟨e1, e2⟩
  rw [sz] at hi
  by_cases ha : i + 1 < A.size
  · rw [left i (by omega)] at e1
    rw [left (i + 1) ha] at e2
    exact h1 i (by omega) ⟨e1, e2⟩
  · by_cases hc : A.size < i
    · obtain ⟨j, rfl⟩ : ∃ j, i = A.size + 1 + j := ⟨i - (A.size + 1), by omega⟩
      rw [right j (by omega)] at e1
      rw [show A.size + 1 + j + 1 = A.size + 1 + (j + 1) by omega, right (j + 1) (by omega)] at e2
      exact h2 j (by omega) ⟨e1, e2⟩
    · by_cases hm : i = A.size
      · rw [hm, mid] at e1; exact hbn.1 e1
      · have : i + 1 = A.size := by omega
        rw [this, mid] at e2; exact hbn.2 e2
theorem holds_join (L : List (UInt8 × ByteArray)) (hL : ∀ y ∈ L, (y.1 = 10 ∨ y.1 = 32) ∧ holdsF y.2 = false) : ∀ A, holdsF A = false → holdsF (A ++ joinB L) = false := by
  induction L with
  | nil => intro A h; rw [show A ++ joinB [] = A from nil_append A]; exact h
  | cons y L ih =>
    obtain ⟨b, x⟩ := y
    intro A h
    obtain ⟨h1, h2⟩ := hL (b, x) (by simp)
    have e : A ++ joinB ((b, x) :: L) = (A ++ ⟨#[b]⟩ ++ x) ++ joinB L := by simp only [joinB, ByteArray.append_assoc]
    rw [e]
    exact ih (fun y hy => hL y (List.mem_cons_of_mem _ hy)) _ (holds_blank A x b h1 h h2)
theorem holds_noD (x : ByteArray) (hx : Wd x) : holdsF x = false := by
  rw [holds_iff]
  rintro i hi ⟨h1, -⟩
  exact (hx.2 i (by omega)).2 h1
theorem holds_kw (c : UInt8) (h : c ≠ 91) : holdsF (kw c) = false := by
  rw [holds_iff]
  rintro i hi ⟨h1, h2⟩
  have hs : (kw c).size = 2 := rfl
  have : i = 0 := by omega
  subst this
  have e : byteAt (kw c) (0 + 1) = (c.toNat : Int) := rfl
  rw [e] at h2
  exact h (UInt8.toNat_inj.1 (by show c.toNat = 91; omega))
/-- A word of ours: a name, or a key. -/
def OurW (x : ByteArray) : Prop := Wd x ∨ ∃ c : UInt8, x = kw c ∧ c ≠ 91 ∧ c ≠ 40 ∧ 33 ≤ c.toNat ∧ c.toNat ≤ 126
theorem OurW.wrd {x : ByteArray} (h : OurW x) : Wrd x ∧ holdsF x = false := by
  rcases h with h | ⟨c, rfl, h1, h2, h3⟩
  · exact ⟨h.wrd, holds_noD x h⟩
  · exact ⟨kw_wrd c h3 h2, holds_kw c h1⟩

theorem Fine.idle {T : ByteArray} (h : Fine T) : Idle (rdM T).2 ∧ (rdM T).2.blocks = [] := by
  obtain ⟨h1, h2, -⟩ := h.left
  obtain ⟨h3, h4⟩ := open_zero h1
  have hnm := rdM_nm T
  exact ⟨⟨h3, hnm.none (Or.inl h3), hnm.prf (by omega), h2⟩, h4⟩
/-- Words behind a closed text: what is read. -/
theorem read_run (T : ByteArray) (hT : Fine T) (x : ByteArray) (L : List (UInt8 × ByteArray)) (hx : OurW x) (hL : ∀ y ∈ L, (y.1 = 10 ∨ y.1 = 32) ∧ OurW y.2) (R : Db → Prop) (h : RunTo (x :: L.map (·.2)) (rdM T).2 (fun d' => openF d' = false ∧ R d')) :
    ∃ d', rdM (T ++ joinB ((10, x) :: L)) = ((0, 0), d') ∧ R d' ∧ holdsF (T ++ joinB ((10, x) :: L)) = false := by
  have hall : ∀ y ∈ (10, x) :: L, (y.1 = 10 ∨ y.1 = 32) ∧ OurW y.2 := by
    intro y hy
    rcases List.mem_cons.1 hy with rfl | hy
    · exact ⟨Or.inl rfl, hx⟩
    · exact hL y hy
  obtain ⟨d', h1, h2, h3⟩ := h (placesB ⟨#[109]⟩ (T ++ joinB ((10, x) :: L)) T.size ((10, x) :: L)) (by rw [placesB_words]; rfl)
  refine ⟨d', read_more T hT 10 x L rfl (fun y hy => ⟨?_, (hall y hy).2.wrd.1⟩) d' h1 h2, h3, holds_join _ (fun y hy => ⟨(hall y hy).1, (hall y hy).2.wrd.2⟩) T hT.inc⟩
  rcases (hall y hy).1 with e | e <;> rw [e] <;> rfl

/-- The beginning of new names, and what they are made of. -/
structure Zed (T z : ByteArray) : Prop where
  fresh : ¬ InT T z
  wd : ∀ y : ByteArray, (∀ i, i < y.size → plainB (byteAt y i) = true ∧ byteAt y i ≠ 36 ∧ labelB (byteAt y i) = true) → Wd (z ++ y) ∧ isLabelF (z ++ y) = true
  size : z.size ≤ 6
theorem zed_of (T : ByteArray) (n : Nat) (hn : n ≤ 1024) (h : ¬ InT T (zF n)) : Zed T (zF n) := ⟨h, fun y hy => zF_wd n hn y hy, by have := zF_size n; have := dig_size n hn; omega⟩
def sfx (l : List UInt8) : ByteArray := ⟨l.toArray⟩
theorem sfx_list (l : List UInt8) : (sfx l).toList = l := by unfold sfx; rw [ByteArray.toList_eq]
def sfxOk (l : List UInt8) : Bool := l.all (fun b => plainB (b.toNat : Int) && !((b.toNat : Int) == 36) && labelB (b.toNat : Int))
theorem Zed.name {T z : ByteArray} (h : Zed T z) (l : List UInt8) (hl : sfxOk l = true) : Wd (z ++ sfx l) ∧ isLabelF (z ++ sfx l) = true := by
  refine h.wd _ (fun i hi => ?_)
  have hi' : i < l.length := by simpa [sfx, ByteArray.size] using hi
  have hb : byteAt (sfx l) i = ((l[i]'hi').toNat : Int) := by
    rw [byteAt_of _ _ hi]
    simp [sfx, ByteArray.getElem_eq_getElem_data]
  rw [hb]
  have := List.all_eq_true.1 hl _ (List.getElem_mem hi')
  simp only [Bool.and_eq_true, Bool.not_eq_true', beq_eq_false_iff_ne] at this
  exact ⟨this.1.1, this.1.2, this.2⟩
theorem Zed.not_has {T z : ByteArray} (h : Zed T z) {d : Db} (hn : Nm (WdT T) d) (y : ByteArray) : hasF d.labels (z ++ y) = false ∧ hasF d.constants (z ++ y) = false ∧ hasF d.variables (z ++ y) = false ∧ hasF d.active (z ++ y) = false ∧ hasF d.typed (z ++ y) = false :=
  ⟨fresh_has h.fresh _ (fun x hx => (hn.lab x hx).2) y, fresh_has h.fresh _ (fun x hx => (hn.con x hx).2) y, fresh_has h.fresh _ (fun x hx => (hn.var x hx).2) y, fresh_has h.fresh _ (fun x hx => (hn.act x hx).2) y, fresh_has h.fresh _ (fun x hx => (hn.typ x hx).2) y⟩

theorem has_app (l m : List ByteArray) (x : ByteArray) : hasF (l ++ m) x = (hasF l x || hasF m x) := by unfold hasF; rw [List.any_append]
theorem has_one (x y : ByteArray) : hasF [x] y = (x.toList == y.toList) := by unfold hasF; simp
/-- The words of outer. -/
def outL (z : ByteArray) : List (UInt8 × ByteArray) := [(32, z ++ sfx [113]), (32, kw 46), (32, z ++ sfx [97]), (32, kw 97), (32, z ++ sfx [113]), (32, kw 46)]
theorem outer_run (T z : ByteArray) (hT : Fine T) (hz : Zed T z) : RunTo (kw 99 :: (outL z).map (·.2)) (rdM T).2 (fun d' => openF d' = false ∧ ∃ p, d'.sts = (rdM T).2.sts ++ [⟨4, z ++ sfx [97], [z ++ sfx [113]], [], p, 0⟩]) := by
  obtain ⟨hi, hb⟩ := hT.idle
  have hn := rdM_nmT T hT.size
  generalize (rdM T).2 = d at *
  obtain ⟨q1, q2⟩ := hz.name [113] (by decide)
  obtain ⟨a1, a2⟩ := hz.name [97] (by decide)
  obtain ⟨n1, n2, n3, -, -⟩ := hz.not_has hn (sfx [113])
  obtain ⟨m1, m2, m3, -, -⟩ := hz.not_has hn (sfx [97])
  have ne : ((z ++ sfx [113]).toList == (z ++ sfx [97]).toList) = false := by rw [app_beq, sfx_list, sfx_list]; decide
  show RunTo ([kw 99, z ++ sfx [113], kw 46] ++ [z ++ sfx [97], kw 97, z ++ sfx [113], kw 46]) d _
  refine RunTo.append (run_c hi hb (z ++ sfx [113]) q1 (by unfold isTakenF; rw [n1, n2, n3]; rfl)) ?_
  rintro d1 rfl
  have hi1 : Idle { d with constants := d.constants ++ [z ++ sfx [113]], label := ⟨#[]⟩ } := ⟨hi.kind, hi.syms, hi.prf, hi.pr⟩
  refine (run_st hi1 (z ++ sfx [97]) a1 a2 ?_ 97 4 (Or.inr (Or.inr ⟨rfl, rfl⟩)) [z ++ sfx [113]] (fun y hy => by rw [List.mem_singleton.1 hy]; exact q1) (by simp) (fun h => by cases h) ?_).mono ?_
  · unfold isTakenF
    simp only [has_app, has_one, m1, m2, m3, ne, Bool.or_self]
  · intro pre y post he
    have hp : pre = [] := by
      cases pre with
      | nil => rfl
      | cons a pre => simp at he
    subst hp
    have hy : y = z ++ sfx [113] ∧ post = [] := by simpa using he.symm
    obtain ⟨hy, -⟩ := hy
    subst hy
    unfold checkSymbolF
    rw [if_neg (show ¬ ((4 : Int) == 7) = true by decide), if_neg (show ¬ ((4 : Int) == 8) = true by decide), if_neg (show ¬ ((4 : Int) == 1) = true by decide), if_pos (by rfl)]
    unfold checkTypecodeF
    rw [if_neg]
    show ¬ hasF (d.constants ++ [z ++ sfx [113]]) (z ++ sfx [113]) = false
    rw [has_last]; simp
  · rintro d' ⟨p, rfl⟩
    refine ⟨?_, p, rfl⟩
    show openF { d with kind := d.kind, blocks := d.blocks } = false
    unfold openF
    rw [hi.kind, hb]; rfl
/-- The text of outer. -/
theorem outer_text (T z : ByteArray) : T ++ ⟨#[10, 36, 99, 32]⟩ ++ z ++ ⟨#[113, 32, 36, 46, 32]⟩ ++ z ++ ⟨#[97, 32, 36, 97, 32]⟩ ++ z ++ ⟨#[113, 32, 36, 46]⟩ = T ++ joinB ((10, kw 99) :: outL z) := by
  apply ByteArray.ext
  apply Array.toList_inj.1
  simp [outL, joinB, kw, sfx, ByteArray.data_append]
theorem outer_read (T z : ByteArray) (hT : Fine T) (hz : Zed T z) : ∃ d' p, rdM (T ++ joinB ((10, kw 99) :: outL z)) = ((0, 0), d') ∧ d'.sts = (rdM T).2.sts ++ [⟨4, z ++ sfx [97], [z ++ sfx [113]], [], p, 0⟩] ∧ holdsF (T ++ joinB ((10, kw 99) :: outL z)) = false := by
  obtain ⟨d', h1, ⟨p, h2⟩, h3⟩ := read_run T hT (kw 99) (outL z) (Or.inr ⟨99, rfl, by decide⟩) (fun y hy => by
    have q1 := (hz.name [113] (by decide)).1
    have a1 := (hz.name [97] (by decide)).1
    simp only [outL, List.mem_cons, List.not_mem_nil, or_false] at hy
    rcases hy with rfl | rfl | rfl | rfl | rfl | rfl
    · exact ⟨Or.inr rfl, Or.inl q1⟩
    · exact ⟨Or.inr rfl, Or.inr ⟨46, rfl, by decide⟩⟩
    · exact ⟨Or.inr rfl, Or.inl a1⟩
    · exact ⟨Or.inr rfl, Or.inr ⟨97, rfl, by decide⟩⟩
    · exact ⟨Or.inr rfl, Or.inl q1⟩
    · exact ⟨Or.inr rfl, Or.inr ⟨46, rfl, by decide⟩⟩) _ (outer_run T z hT hz)
  exact ⟨d', p, h1, h2, h3⟩

end Go.Proofs.YtcipkfhpcbddiaaGreat
