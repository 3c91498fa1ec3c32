import Derived.Test.YtcipkfhpcbddiaaGreatQFr3
import Derived.Test.YtcipkfhpcbddiaaGreatQFr4
/- Package frames: Of, Lines. -/
namespace Go.Proofs.YtcipkfhpcbddiaaGreat
open Go.RowKit

/-- The mandatory pairs of an assertion. -/
def pairsF (l : List St) (a : Nat) : List Pr := prsF (varsOfF l (hypsF l a)) (marksF l a (varsOfF l (hypsF l a)))
def lineN (l : List St) (n : Nat) : ByteArray := match l[n]? with | some s => lineF s | none => ⟨#[]⟩
def pairLine (p : Pr) : ByteArray := ⟨#[36, 100, 32]⟩ ++ p.1 ++ ⟨#[32]⟩ ++ p.2
/-- The lines of a frame. -/
def linesF (l : List St) (a : Nat) : List ByteArray := (hypsF l a).map (lineN l) ++ (pairsF l a).map pairLine ++ [lineN l a]
theorem hyps_lt (l : List St) (a n : Nat) (h : n ∈ hypsF l a) : n < l.length := by
  unfold hypsF hypsTo at h
  exact List.mem_range.1 (List.mem_filter.1 h).1
theorem hyps_len (l : List St) (a : Nat) : (hypsF l a).length ≤ l.length := by
  unfold hypsF hypsTo
  have := List.length_filter_le (mandAt l (symsOfF l a) a) (List.range l.length)
  simpa using this
theorem fvars_len (l : List St) (hs : List Nat) : (varsOfF l hs).length ≤ hs.length := List.length_filterMap_le _ _
theorem build_frame (w : World) (a1 a2 : Option Addr) (n1 c1 n2 c2 : Nat) : (Instr.build 124 #[(0, .slice a1 n1 c1), (1, .slice a2 n2 c2)]).run Tryz.prog w = .ok (.agg #[.slice a1 n1 c1, .slice a2 n2 c2]) w :=
  run_build w 124 _ _ (by kernel_rfl)
attribute [local go_sem] build_frame

set_option maxHeartbeats 2000000 in
set_option maxRecDepth 100000 in
theorem of_any (b o a : Nat) (l : List St) (H : Nat → Hd) (w : World) (h : RecAt w b o l H) (ha : a < l.length) (ok : RecOk l) :
    Calls Tryz.prog 56 #[.pointer (some ⟨b, o, none⟩), .int .i64 a] w fun e w' => ∃ hh hp : Hd, e = .returned (.agg #[.slice hh.ao (hypsF l a).length hh.cap, .slice hp.ao (pairsF l a).length hp.cap]) ∧ Owns w' hh (rowN (hypsF l a)) ∧ Owns w' hp (rowPr (pairsF l a)) ∧ (∀ k, hh.blk = some k ∨ hp.blk = some k → w.heap.size ≤ k) ∧ Kept [] w w' := by
  have hlen := ok.len
  have hhl := hyps_len l a
  have hvl := fvars_len l (hypsF l a)
  have HLT : Hid (∀ x ∈ hypsF l a, x < l.length) := fun x hx => hyps_lt l a x hx
  have HP : Hid (pairsF l a = prsF (varsOfF l (hypsF l a)) (marksF l a (varsOfF l (hypsF l a)))) := rfl
  obtain ⟨W, hW⟩ : ∃ W, W = w.alloc (.cells #[.slice none 0 0, .slice none 0 0] 124) := ⟨_, rfl⟩
  have hK : Kept [] w W := by rw [hW]; exact (Kept.refl [] _).alloc _
  have hF : W.heap[w.heap.size]? = some (.cells #[.slice none 0 0, .slice none 0 0] 124 (0, 0)) := by rw [hW]; exact heap_alloc_new _ _
  have HW := (show Hid _ from hW.symm)
  clear hW
  have hrW := h.still hK
  have HHA := (show Hid _ from hypotheses_any b o a l H W hrW ha ok)
  go_enter Tryz.func56, Tryz.ntmps56
  go_wp2_with fail
  rw [HW.out]
  refine Calls.mono HHA.out ?_
  rintro e w1 ⟨hh, rfl, hO1, hN1, k1⟩
  go_wp2_with fail
  refine (variablesOf_any b o l H (hypsF l a) hh w1 (hrW.still k1) ok hO1 (by omega) HLT.out).mono ?_
  rintro e w2 ⟨hv, rfl, hO2, hN2, k2⟩
  go_wp2_with fail
  refine (pairsOf_any b o a l H hv (varsOfF l (hypsF l a)) w2 ((hrW.still k1).still k2) ok hO2 (by omega)).mono ?_
  rintro e w3 ⟨hp, rfl, hO3, hN3, k3⟩
  rw [← HP.out] at hO3 ⊢
  have hO13 : Owns w3 hh (rowN (hypsF l a)) := hO1.moved (fun x hx => (k2.trans k3).block x (hO1.lt hx) (by simp))
  have hF3 := ((k1.trans k2).trans k3).get hF (by simp)
  have hK3 : Kept [] w w3 := ((hK.trans k1).trans k2).trans k3
  have hs1 := (hK.trans k1).size
  have hs2 := ((hK.trans k1).trans k2).size
  have hq1 := k1.size
  have hq2 := k2.size
  have hsW := lt_of_get hF
  have hsw := hK.size
  have z0 : w3.cell? ⟨w.heap.size, 0, none⟩ = some (.slice none 0 0) := by rw [cell_of hF3]; rfl
  have z1 : w3.cell? ⟨w.heap.size, 1, none⟩ = some (.slice none 0 0) := by rw [cell_of hF3]; rfl
  have yf := free_of hF3
  have HO1 : Hid (∀ u v, Owns ((w3.setCell ⟨w.heap.size, 0, none⟩ u).setCell ⟨w.heap.size, 1, none⟩ v) hh (rowN (hypsF l a))) := fun u v => hO13.moved (fun x hx => (Below.heap_setCell _ _ _ _ (by have := hN1 x hx; show x ≠ w.heap.size; omega)).trans (Below.heap_setCell _ _ _ _ (by have := hN1 x hx; show x ≠ w.heap.size; omega)))
  have HO3 : Hid (∀ u v, Owns ((w3.setCell ⟨w.heap.size, 0, none⟩ u).setCell ⟨w.heap.size, 1, none⟩ v) hp (rowPr (pairsF l a))) := fun u v => hO3.moved (fun x hx => (Below.heap_setCell _ _ _ _ (by have := hN3 x hx; show x ≠ w.heap.size; omega)).trans (Below.heap_setCell _ _ _ _ (by have := hN3 x hx; show x ≠ w.heap.size; omega)))
  clear hO1 hO2 hO3 hO13
  go_wp2
  exact bodyPost_ret (v := .agg #[.slice hh.ao (hypsF l a).length hh.cap, .slice hp.ao (pairsF l a).length hp.cap]) (by simp [results, Tryz.results56, go_sem, z0, z1]) rfl
    ⟨hh, hp, rfl, HO1.out _ _, HO3.out _ _, fun k hk => hk.elim (fun hk => by have := hN1 k hk; omega) (fun hk => by have := hN3 k hk; omega),
      (hK3.setCell (Or.inr (Nat.le_refl _)) _).setCell (Or.inr (Nat.le_refl _)) _⟩

/-- A list as far as it was written. -/
def partL (L : List ByteArray) (k : Nat) : List ByteArray := L.take k ++ List.replicate (L.length - k) ⟨#[]⟩
theorem partL_len (L : List ByteArray) (k : Nat) (h : k ≤ L.length) : (partL L k).length = L.length := by simp [partL]; omega
theorem partL_next (L : List ByteArray) (k : Nat) (h : k < L.length) : partL L (k + 1) = (partL L k).set k L[k] := by
  unfold partL
  rw [take_snoc L k h]
  apply List.ext_getElem?
  intro i
  have hk : (L.take k).length = k := by simp; omega
  rcases Nat.lt_trichotomy i k with hi | hi | hi
  · rw [List.getElem?_set_ne (by omega), List.getElem?_append_left (by simp; omega), List.getElem?_append_left (by omega), List.getElem?_append_left (by omega)]
  · subst hi
    rw [List.getElem?_set_self (by simp; omega), List.getElem?_append_left (by simp; omega), List.getElem?_append_right (by omega), hk]
    simp
  · rw [List.getElem?_set_ne (by omega), List.getElem?_append_right (by simp; omega), List.getElem?_append_right (by omega)]
    simp only [List.length_append, hk, List.length_singleton, List.getElem?_replicate]
    by_cases h2 : i < L.length
    · rw [if_pos (by omega), if_pos (by omega)]
    · rw [if_neg (by omega), if_neg (by omega)]
theorem partL_end (L : List ByteArray) : partL L L.length = L := by simp [partL]
theorem strs_set (L : List ByteArray) (k : Nat) (x : ByteArray) : strs (L.set k x) = (strs L).set k (.string x) := by simp [strs, List.map_set]
/-- The lines in memory, as far as they were written. -/
def LnsAt (w : World) (g : Nat) (L : List ByteArray) (k : Nat) : Prop := w.heap[g]? = some (.cells (strs (partL L k)).toArray 9 (0, 0))
theorem LnsAt.next {w : World} {g : Nat} {L : List ByteArray} {k : Nat} {x : ByteArray} (h : LnsAt w g L k) (hx : L[k]? = some x) : LnsAt (w.setCell ⟨g, k, none⟩ (.string x)) g L (k + 1) := by
  obtain ⟨hk, rfl⟩ := List.getElem?_eq_some_iff.1 hx
  unfold LnsAt at h ⊢
  rw [block_setCell h, partL_next L k hk, strs_set, List.setIfInBounds_toArray]
theorem LnsAt.cell {w : World} {g : Nat} {L : List ByteArray} {k i : Nat} (h : LnsAt w g L k) (hk : k ≤ L.length) (hi : i < L.length) : ∃ x, w.cell? ⟨g, i, none⟩ = some (.string x) := by
  refine ⟨(partL L k)[i]'(by rw [partL_len L k hk]; exact hi), ?_⟩
  rw [cell_of h]
  simp [strs]
theorem LnsAt.kept {w w' : World} {g : Nat} {L : List ByteArray} {k : Nat} {S : List Nat} (h : LnsAt w g L k) (q : Kept S w w') (hg : g ∉ S) : LnsAt w' g L k := q.get h hg

/-- What lines are made of is not long. -/
def SzsOk (l : List St) : Prop := ∀ s ∈ l, s.kind ≠ 1 → SzOk s
theorem lines_len (l : List St) (a : Nat) : (linesF l a).length = (hypsF l a).length + (pairsF l a).length + 1 := by simp [linesF]; omega
theorem lines_hyp (l : List St) (a k : Nat) (h : k < (hypsF l a).length) (hq : (hypsF l a)[k] < l.length) : (linesF l a)[k]? = some (lineF l[(hypsF l a)[k]]) := by
  unfold linesF
  rw [List.getElem?_append_left (by simp; omega), List.getElem?_append_left (by simpa using h), List.getElem?_map, List.getElem?_eq_getElem h]
  simp [lineN, List.getElem?_eq_getElem hq]
theorem lines_pair (l : List St) (a j : Nat) (h : j < (pairsF l a).length) : (linesF l a)[(hypsF l a).length + j]? = some (pairLine (pairsF l a)[j]) := by
  unfold linesF
  rw [List.getElem?_append_left (by simp; omega), List.getElem?_append_right (by simp), List.getElem?_map]
  simp [h]
theorem lines_last (l : List St) (a : Nat) (ha : a < l.length) : (linesF l a)[(hypsF l a).length + (pairsF l a).length]? = some (lineF l[a]) := by
  unfold linesF
  rw [List.getElem?_append_right (by simp)]
  simp [lineN, List.getElem?_eq_getElem ha]
theorem kind_hyp (l : List St) (a n : Nat) (h : n ∈ hypsF l a) (hn : n < l.length) : l[n].kind = 2 ∨ l[n].kind = 3 := by
  unfold hypsF hypsTo at h
  obtain ⟨-, h2⟩ := List.mem_filter.1 h
  unfold mandAt at h2
  rw [List.getElem?_eq_getElem hn] at h2
  simp only [Bool.and_eq_true] at h2
  have := h2.2
  unfold mandF at this
  cases e2 : (l[n].kind == 2)
  · rw [e2] at this; right; simpa using this
  · left; simpa using e2
theorem gD_size (vs : List ByteArray) (i n : Nat) (h : ∀ x ∈ vs, x.size ≤ n) : (gD vs i).size ≤ n := by
  unfold gD
  rw [List.getD_eq_getElem?_getD]
  cases e : vs[i]? with
  | none => exact Nat.zero_le _
  | some x => exact h x (List.mem_of_getElem? e)
theorem pairs_size (l : List St) (a : Nat) (hz : SzsOk l) (p : Pr) (h : p ∈ pairsF l a) : p.1.size ≤ 100000 ∧ p.2.size ≤ 100000 := by
  have hv : ∀ x ∈ varsOfF l (hypsF l a), x.size ≤ 100000 := by
    intro x hx
    unfold varsOfF at hx
    obtain ⟨n, hn, he⟩ := List.mem_filterMap.1 hx
    have hnl := hyps_lt l a n hn
    unfold varOne at he
    rw [List.getElem?_eq_getElem hnl] at he
    simp only at he
    split at he
    · next h2 =>
      cases he
      have hk := kind_hyp l a n hn hnl
      have hs := hz l[n] (List.getElem_mem hnl) (by omega)
      unfold variableF
      split
      · next hc =>
        refine hs.syms _ ?_
        rw [List.getD_eq_getElem?_getD, List.getElem?_eq_getElem (show 1 < l[n].symbols.length by omega)]
        exact List.getElem_mem _
      · exact Nat.zero_le _
    · cases he
  unfold pairsF prsF prTo at h
  obtain ⟨i, -, h⟩ := List.mem_flatMap.1 h
  unfold prRow at h
  obtain ⟨j, -, rfl⟩ := List.mem_map.1 h
  exact ⟨gD_size _ _ _ hv, gD_size _ _ _ hv⟩
theorem d3_size : (⟨#[36, 100, 32]⟩ : ByteArray).size = 3 := rfl
theorem prsV_at (L : List Pr) (k : Nat) (h : k < L.length) : (prsV L)[k * 2]? = some (.string L[k].1) ∧ (prsV L)[k * 2 + 1]? = some (.string L[k].2) := by
  induction L generalizing k with
  | nil => simp at h
  | cons p L ih =>
    cases k with
    | zero => exact ⟨rfl, rfl⟩
    | succ k =>
      have := ih k (by simpa using h)
      have e : prsV (p :: L) = .string p.1 :: .string p.2 :: prsV L := rfl
      rw [e]
      refine ⟨?_, ?_⟩
      · rw [show (k + 1) * 2 = k * 2 + 1 + 1 by omega]; simpa using this.1
      · rw [show (k + 1) * 2 + 1 = k * 2 + 1 + 1 + 1 by omega]; simpa using this.2

set_option maxHeartbeats 3000000 in
set_option maxRecDepth 100000 in
theorem lines_any' (b o a : Nat) (l : List St) (H : Nat → Hd) (w : World) (h : RecAt w b o l H) (ha : a < l.length) (ok : RecOk l) (hz : SzsOk l) (hka : l[a].kind ≠ 1) :
    Calls Tryz.prog 48 #[.pointer (some ⟨b, o, none⟩), .int .i64 a] w fun e w' => ∃ g, e = .returned (.slice (some ⟨g, 0, none⟩) (linesF l a).length (linesF l a).length) ∧ LnsAt w' g (linesF l a) (linesF l a).length ∧ w.heap.size ≤ g ∧ Kept [] w w' := by
  obtain ⟨i0, hi, hz0, hz1, hz2⟩ := info_parts infoS
  have hlen := ok.len
  have hhl := hyps_len l a
  have hvl := fvars_len l (hypsF l a)
  have hpl : (pairsF l a).length ≤ 100000000 := prs_len _ _ (by omega)
  have HLL := (show Hid _ from lines_len l a)
  obtain ⟨N, HN⟩ : ∃ N, Hid ((linesF l a).length = N) := ⟨_, rfl⟩
  rw [HN.out] at HLL ⊢
  have HLh : Hid (∀ k (h : k < (hypsF l a).length) (hq : (hypsF l a)[k] < l.length), (linesF l a)[k]? = some (lineF l[(hypsF l a)[k]])) := fun k h hq => lines_hyp l a k h hq
  have HLp : Hid (∀ j (h : j < (pairsF l a).length), (linesF l a)[(hypsF l a).length + j]? = some (pairLine (pairsF l a)[j])) := fun j h => lines_pair l a j h
  have HLl : Hid ((linesF l a)[(hypsF l a).length + (pairsF l a).length]? = some (lineF l[a])) := lines_last l a ha
  have HPS := (show Hid _ from pairs_size l a hz)
  have HHK : Hid (∀ n ∈ hypsF l a, ∃ h : n < l.length, SzOk l[n]) := fun n hn => ⟨hyps_lt l a n hn, hz _ (List.getElem_mem _) (by have := kind_hyp l a n hn (hyps_lt l a n hn); omega)⟩
  have hsa := hz _ (List.getElem_mem ha) hka
  have HOF := (show Hid _ from of_any b o a l H w h ha ok)
  have m1 := fun w => run_make_row (P := Tryz.prog) w 22 9 i0 _ Tryz.underlying22 hi hz0 N 1 hz1 (by rw [hz2]; have := HLL.out; omega) (by have := HLL.out; omega)
  obtain ⟨mc, hmc⟩ : ∃ mc, mc = madeCells (Value.string ⟨#[]⟩).cells (N * 1) := ⟨_, rfl⟩
  rw [← hmc] at m1
  have HMC : Hid (mc = (strs (partL (linesF l a) 0)).toArray) := by
    show _ = _
    rw [hmc]
    have e : (Value.string ⟨#[]⟩).cells = #[.string ⟨#[]⟩] := rfl
    rw [e, made_all]
    simp [partL, strs, HN.out]
  clear hmc hz
  generalize hL : linesF l a = L at *
  generalize hHy : hypsF l a = hs at *
  generalize hPr : pairsF l a = ps at *
  clear hL hHy hPr hvl
  have hNi : (hs.length : Int) + (ps.length : Int) + 1 = (N : Int) := by have := HLL.out; omega
  have hNb : N ≤ 200000000 := by have := HLL.out; omega
  have hnN : hs.length + ps.length < N := by have := HLL.out; omega
  go_enter Tryz.func48, Tryz.ntmps48
  go_wp2_with fail
  refine Calls.mono HOF.out ?_
  rintro e w1 ⟨hh, hp, rfl, hO1, hO2, hN1, k1⟩
  obtain ⟨AH, HAH⟩ : ∃ AH, Hid (hh.ao = AH) := ⟨_, rfl⟩
  obtain ⟨AP, HAP⟩ : ∃ AP, Hid (hp.ao = AP) := ⟨_, rfl⟩
  rw [HAH.out, HAP.out]
  obtain ⟨X, hX⟩ : ∃ X, X = w1.alloc (.cells #[.slice AH hs.length hh.cap, .slice AP ps.length hp.cap] 124) := ⟨_, rfl⟩
  have kX : Kept [] w1 X := by rw [hX]; exact (Kept.refl [] _).alloc _
  have BX : X.heap[w1.heap.size]? = some (.cells #[.slice AH hs.length hh.cap, .slice AP ps.length hp.cap] 124 (0, 0)) := by rw [hX]; exact heap_alloc_new _ _
  have HX := (show Hid _ from hX.symm)
  clear hX
  obtain ⟨Y, hY⟩ : ∃ Y, Y = X.alloc (.cells mc 9) := ⟨_, rfl⟩
  have kY : Kept [] X Y := by rw [hY]; exact (Kept.refl [] _).alloc _
  have BY : LnsAt Y X.heap.size L 0 := by unfold LnsAt; rw [hY, ← HMC.out]; exact heap_alloc_new _ _
  have HY := (show Hid _ from hY.symm)
  clear hY
  have u0 : X.cell? ⟨w1.heap.size, 0, none⟩ = some (.slice AH hs.length hh.cap) := by rw [cell_of BX]; rfl
  have u1 : X.cell? ⟨w1.heap.size, 1, none⟩ = some (.slice AP ps.length hp.cap) := by rw [cell_of BX]; rfl
  have hFX := lt_of_get BX
  have hrX := h.still (k1.trans kX)
  have hsX := (k1.trans kX).size
  have hO1X : Owns X hh (rowN hs) := hO1.moved (fun x hx => kX.block x (hO1.lt hx) (by simp))
  have hO2X : Owns X hp (rowPr ps) := hO2.moved (fun x hx => kX.block x (hO2.lt hx) (by simp))
  go_upto_region 3 with fail
  rw [HX.out]
  go_upto_region 4 with fail
  rw [HY.out]
  clear u0 u1 m1
  generalize hG : X.heap.size = G at *
  go_wp2
  go_loopg [8] hs.length (fun gk i wr => ∃ (k : Nat), k ≤ hs.length ∧ gk = hs.length - k ∧ i = .int .i64 k ∧ LnsAt wr G L k ∧ Kept [] X wr)
  case atStart => exact ⟨0, by omega, by omega, rfl, BY, kY⟩
  case round =>
    obtain ⟨k, hk, hg, rfl, hLn, hK⟩ := hrel
    have hrr := hrX.still hK
    have BXr := hK.get BX (by simp)
    have hFr := lt_of_get BXr
    have u0 : wr.cell? ⟨w1.heap.size, 0, none⟩ = some (.slice AH hs.length hh.cap) := by rw [cell_of BXr]; rfl
    have u1 : wr.cell? ⟨w1.heap.size, 1, none⟩ = some (.slice AP ps.length hp.cap) := by rw [cell_of BXr]; rfl
    by_cases hlt : k < hs.length
    · have hOHr : Owns wr hh (rowN hs) := hO1X.moved (fun x hx => hK.block x (hO1X.lt hx) (by simp))
      rcases hOHr.ways with ⟨_, h0, _⟩ | ⟨gh, curh, eh, eh2, eh3, -⟩
      · have : hs.length = 0 := h0
        omega
      have ch := hOHr.cell eh k (.int .i64 hs[k]) (nums_at hs k hlt)
      have hAH : AH = some ⟨gh, 0, none⟩ := by rw [← HAH.out]; exact eh
      subst hAH
      obtain ⟨hql, hqs⟩ := HHK.out hs[k] (List.getElem_mem hlt)
      have HLk := (show Hid _ from HLh.out k hlt hql)
      have hki : (k : Int) < hs.length := by omega
      clear eh eh2 eh3 hOHr
      generalize hs[k] = q at *
      have hsl := ok.syms q hql
      have hqv := (hrr.sts.syms q l[q] (List.getElem?_eq_getElem hql)).view
      go_wp2_with fail
      refine (statement_any b o q l H wr hrr hql).mono ?_
      rintro e w3 ⟨rfl, k3⟩
      go_wp2_with fail
      refine (line_any l[q] _ _ w3 (hqv.still k3) hsl hqs).mono ?_
      rintro e w4 ⟨rfl, k4⟩
      have K34 := k3.trans k4
      have hLn4 := hLn.kept K34 (by simp)
      obtain ⟨x0, cx⟩ := hLn4.cell (i := k) (by have := HN.out; omega) (by have := HN.out; omega)
      have hfr := free_of hLn4
      have hGw := lt_of_get hLn4
      have HNX := (show Hid _ from hLn4.next HLk.out)
      have hKK := hK.trans K34
      have hkN : (k : Int) < (N : Int) := by omega
      generalize lineF l[q] = tx at *
      go_wp2
      go_roundg (hs.length - (k + 1))
      case measure => omega
      case rel => exact ⟨k + 1, by omega, rfl, by go_num, HNX.out, hKK.setCell (Or.inr (Nat.le_of_eq hG)) _⟩
    · have e : k = hs.length := by omega
      subst e
      clear u0
      go_wp2
      go_loopg [9] ps.length (fun gk2 i2 wr2 => ∃ (j : Nat), j ≤ ps.length ∧ gk2 = ps.length - j ∧ i2 = .int .i64 j ∧ LnsAt wr2 G L (hs.length + j) ∧ Kept [] X wr2)
      case atStart => exact ⟨0, by omega, by omega, rfl, hLn, hK⟩
      case round =>
        obtain ⟨j, hj, hg2, rfl, hLn2, hK2⟩ := hrel
        clear hLn hK hrr BXr hFr u1
        have BX2 := hK2.get BX (by simp)
        have hF2 := lt_of_get BX2
        have u1 : wr.cell? ⟨w1.heap.size, 1, none⟩ = some (.slice AP ps.length hp.cap) := by rw [cell_of BX2]; rfl
        by_cases hlj : j < ps.length
        · have hOPr : Owns wr hp (rowPr ps) := hO2X.moved (fun x hx => hK2.block x (hO2X.lt hx) (by simp))
          rcases hOPr.ways with ⟨_, h0, _⟩ | ⟨gp, curp, ep, ep2, ep3, -⟩
          · have : ps.length = 0 := h0
            omega
          obtain ⟨v1, v2⟩ := prsV_at ps j hlj
          have cp1 := hOPr.cell ep (j * 2) _ v1
          have cp2 := hOPr.cell ep (j * 2 + 1) _ v2
          have hgp := lt_of_get ep2
          have hAP : AP = some ⟨gp, 0, none⟩ := by rw [← HAP.out]; exact ep
          subst hAP
          have HLk := (show Hid _ from HLp.out j hlj)
          obtain ⟨z1, z2⟩ := HPS.out _ (List.getElem_mem hlj)
          have hji : (j : Int) < ps.length := by omega
          have hj0 : (0 : Int) ≤ j := by omega
          have hx0 : (0 : Int) ≤ (hs.length : Int) + (j : Int) := by omega
          have hx1 : (hs.length : Int) + (j : Int) < (N : Int) := by omega
          have hwr : IntKind.i64.wrap ((hs.length : Int) + (j : Int)) = (hs.length : Int) + (j : Int) := by rw [IntKind.wrap_i64]; omega
          have htn : ((hs.length : Int) + (j : Int)).toNat = hs.length + j := by omega
          have hgpX := hO2X.lt (k := gp) (by unfold Hd.blk; rw [ep]; rfl)
          have ne1 : G ≠ w1.heap.size := by omega
          have ne2 : w1.heap.size ≠ G := by omega
          have ne3 : G ≠ gp := by omega
          have ne4 : gp ≠ G := by omega
          clear ep ep2 ep3 hOPr v1 v2
          generalize ps[j] = pp at *
          obtain ⟨p1, p2⟩ := pp
          simp only at cp1 cp2 z1 z2
          have HT : Hid (⟨#[36, 100, 32]⟩ ++ p1 ++ ⟨#[32]⟩ ++ p2 = pairLine (p1, p2)) := rfl
          have n1 : ¬ 9223372036854775807 < 3 + p1.size := by omega
          have n2 : ¬ 9223372036854775807 < 3 + p1.size + 1 := by omega
          have n3 : ¬ 9223372036854775807 < 3 + p1.size + 1 + p2.size := by omega
          obtain ⟨x0, cx⟩ := hLn2.cell (i := hs.length + j) (by have := HN.out; omega) (by have := HN.out; omega)
          have hfr := free_of hLn2
          have hGw := lt_of_get hLn2
          have HNX : Hid (LnsAt (wr.setCell ⟨G, hs.length + j, none⟩ (.string (pairLine (p1, p2)))).drew G L (hs.length + j + 1)) := (hLn2.next HLk.out).kept (Kept.refl [] _).drew (by simp)
          go_upto_region 11 with fail
          go_region_held3 (fun w' => w'.cell? ⟨w1.heap.size, 1, none⟩ = some (.slice (some ⟨gp, 0, none⟩) ps.length hp.cap) ∧ w'.cell? ⟨gp, j * 2, none⟩ = some (.string p1) ∧ w'.cell? ⟨gp, j * 2 + 1, none⟩ = some (.string p2)) (go_keep) (fail)
          rw [HT.out]
          go_wp2
          go_roundg (ps.length - (j + 1))
          case measure => omega
          case rel => exact ⟨j + 1, by omega, rfl, by go_num, HNX.out, (hK2.setCell (Or.inr (Nat.le_of_eq hG)) _).drew⟩
        · have e : j = ps.length := by omega
          subst e
          have hrr := hrX.still hK2
          have hqv := (hrr.sts.syms a l[a] (List.getElem?_eq_getElem ha)).view
          have hsl := ok.syms a ha
          have htn : ((hs.length : Int) + (ps.length : Int)).toNat = hs.length + ps.length := by omega
          have hNs : (N : Int) - 1 = (hs.length : Int) + (ps.length : Int) := by omega
          go_wp2_with fail
          refine (statement_any b o a l H wr hrr ha).mono ?_
          rintro e w3 ⟨rfl, k3⟩
          go_wp2_with fail
          refine (line_any l[a] _ _ w3 (hqv.still k3) hsl hsa).mono ?_
          rintro e w4 ⟨rfl, k4⟩
          have K34 := k3.trans k4
          have hLn4 := hLn2.kept K34 (by simp)
          obtain ⟨x0, cx⟩ := hLn4.cell (i := hs.length + ps.length) (by have := HN.out; omega) (by have := HN.out; omega)
          have hfr := free_of hLn4
          have hGw := lt_of_get hLn4
          have HNX := (show Hid _ from hLn4.next HLl.out)
          have hKK := hK2.trans K34
          have hx0 : (0 : Int) ≤ (hs.length : Int) + (ps.length : Int) := by omega
          have hx1 : (hs.length : Int) + (ps.length : Int) < (N : Int) := by omega
          have HE : Hid (hs.length + ps.length + 1 = N) := HLL.out.symm
          rw [HE.out] at HNX
          generalize lineF l[a] = tx at *
          go_wp2
          go_ret
          exact ⟨G, rfl, HNX.out, by omega, (k1.trans (kX.trans hKK)).setCell (Or.inr (by show w.heap.size ≤ G; omega)) _⟩

end Go.Proofs.YtcipkfhpcbddiaaGreat
