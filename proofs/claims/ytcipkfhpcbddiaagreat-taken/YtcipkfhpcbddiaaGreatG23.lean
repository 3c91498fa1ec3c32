/- Our texts: Fr4, Fr5, Fm1, Nam3, Tkn1. -/
import Derived.Test.YtcipkfhpcbddiaaGreatG16
import Derived.Test.YtcipkfhpcbddiaaGreatG22
/- Package frames: pairsOf. -/
namespace Go.Proofs.YtcipkfhpcbddiaaGreat
open Go.RowKit

abbrev Pr := ByteArray × ByteArray
def prV (p : Pr) : List Value := [.string p.1, .string p.2]
def prsV (l : List Pr) : List Value := l.flatMap prV
def rowPr (l : List Pr) : Row := ⟨128, 2, l.length, prsV l⟩
theorem rowPr_snoc (l : List Pr) (x : Pr) : (⟨(rowPr l).e, (rowPr l).size, (rowPr l).n + 1, (rowPr l).xs ++ [.string x.1, .string x.2]⟩ : Row) = rowPr (l ++ [x]) := by
  simp [rowPr, prsV, prV]
theorem infoPr : (Tryz.prog.info? 128).map (fun i => (i.zero, i.size, i.bytes)) = some (some (.agg #[.string ⟨#[]⟩, .string ⟨#[]⟩]), 2, 32) := by kernel_rfl

def gD (vs : List ByteArray) (i : Nat) : ByteArray := vs.getD i ⟨#[]⟩
/-- The pairs of variable i with those behind it, up to k. -/
def prRow (vs : List ByteArray) (ms : List Bool) (i k : Nat) : List Pr := ((List.range k).filter (fun j => decide (i < j) && apartF vs.length ms i j)).map (fun j => (gD vs i, gD vs j))
def prTo (vs : List ByteArray) (ms : List Bool) (i : Nat) : List Pr := (List.range i).flatMap (fun i => prRow vs ms i vs.length)
def prsF (vs : List ByteArray) (ms : List Bool) : List Pr := prTo vs ms vs.length
theorem prRow_zero (vs : List ByteArray) (ms : List Bool) (i : Nat) : prRow vs ms i (i + 1) = [] := by
  unfold prRow
  rw [List.map_eq_nil_iff, List.filter_eq_nil_iff]
  intro j hj
  have := List.mem_range.1 hj
  simp; omega
theorem prRow_yes (vs : List ByteArray) (ms : List Bool) (i k : Nat) (hi : i < k) (h : apartF vs.length ms i k = true) : prRow vs ms i (k + 1) = prRow vs ms i k ++ [(gD vs i, gD vs k)] := by
  unfold prRow
  rw [List.range_succ, List.filter_append, List.map_append]
  simp [hi, h]
theorem prRow_no (vs : List ByteArray) (ms : List Bool) (i k : Nat) (h : apartF vs.length ms i k = false) : prRow vs ms i (k + 1) = prRow vs ms i k := by
  unfold prRow
  rw [List.range_succ, List.filter_append, List.map_append]
  simp [h]
theorem prTo_next (vs : List ByteArray) (ms : List Bool) (i : Nat) : prTo vs ms (i + 1) = prTo vs ms i ++ prRow vs ms i vs.length := by
  unfold prTo; rw [List.range_succ, List.flatMap_append]; simp
theorem prRow_len (vs : List ByteArray) (ms : List Bool) (i k : Nat) : (prRow vs ms i k).length ≤ k := by
  unfold prRow
  rw [List.length_map]
  have := List.length_filter_le (fun j => decide (i < j) && apartF vs.length ms i j) (List.range k)
  simpa using this
theorem prTo_len (vs : List ByteArray) (ms : List Bool) (i : Nat) : (prTo vs ms i).length ≤ i * vs.length := by
  induction i with
  | zero => simp [prTo]
  | succ i ih =>
    rw [prTo_next, List.length_append, Nat.add_mul]
    have := prRow_len vs ms i vs.length
    omega
/-- The pairs on the way. -/
def prAt (vs : List ByteArray) (ms : List Bool) (i j : Nat) : List Pr := prTo vs ms i ++ prRow vs ms i j
theorem prAt_len (vs : List ByteArray) (ms : List Bool) (i j : Nat) (hi : i ≤ 10000) (hv : vs.length ≤ 10000) (hj : j ≤ 10000) : (prAt vs ms i j).length ≤ 100010000 := by
  unfold prAt
  rw [List.length_append]
  have h1 := prTo_len vs ms i
  have h2 := prRow_len vs ms i j
  have h3 : i * vs.length ≤ 10000 * 10000 := Nat.mul_le_mul hi hv
  omega
theorem prs_len (vs : List ByteArray) (ms : List Bool) (h : vs.length ≤ 10000) : (prsF vs ms).length ≤ 100000000 := by
  have h1 := prTo_len vs ms vs.length
  have h2 : vs.length * vs.length ≤ 10000 * 10000 := Nat.mul_le_mul h h
  unfold prsF
  omega

set_option maxHeartbeats 2000000 in
set_option maxRecDepth 100000 in
theorem pairsOf_any (b o a : Nat) (l : List St) (H : Nat → Hd) (hw : Hd) (vs : List ByteArray) (w : World) (h : RecAt w b o l H) (ok : RecOk l) (hO : Owns w hw (rowS vs)) (hvl : vs.length ≤ 10000) :
    Calls Tryz.prog 72 #[.pointer (some ⟨b, o, none⟩), .int .i64 a, .slice hw.ao vs.length hw.cap] w fun e w' => ∃ hd : Hd, e = .returned (.slice hd.ao (prsF vs (marksF l a vs)).length hd.cap) ∧ Owns w' hd (rowPr (prsF vs (marksF l a vs))) ∧ (∀ x, hd.blk = some x → w.heap.size ≤ x) ∧ Kept [] w w' := by
  obtain ⟨i0, hi, hz0, hz1, hz2⟩ := info_parts infoPr
  have HAT := (show Hid _ from at_any b o a l H hw vs w h ok hO hvl)
  have hmlen : (marksF l a vs).length = vs.length * vs.length := marksTo_len l a vs _
  generalize marksF l a vs = ms at *
  obtain ⟨AO, HAO⟩ : ∃ AO, Hid (hw.ao = AO) := ⟨_, rfl⟩
  rw [HAO.out] at HAT ⊢
  go_enter Tryz.func72, Tryz.ntmps72
  go_wp2_with fail
  refine Calls.mono HAT.out ?_
  rintro e w1 ⟨tb, hv, hm, rfl, hA1, htb, hvb, k1⟩
  go_wp2
  go_loopg [8, 9] vs.length (fun gk sv i wr => ∃ (k : Nat) (hd : Hd), k ≤ vs.length ∧ gk = vs.length - k ∧ i = .int .i64 k ∧ sv = .slice hd.ao (prTo vs ms k).length hd.cap ∧ Owns wr hd (rowPr (prTo vs ms k)) ∧ (∀ x, hd.blk = some x → w1.heap.size ≤ x) ∧ Kept [] w1 wr)
  case atStart => exact ⟨0, ⟨none, 0⟩, by omega, by omega, rfl, rfl, World.ownsRow_nil _ _ _ _, by intro x hx; simp [Hd.blk] at hx, Kept.refl _ _⟩
  case round =>
    obtain ⟨k, hd, hk, hg, rfl, rfl, hO1, hN, hK⟩ := hrel
    by_cases hlt : k < vs.length
    · have HNX := (show Hid _ from prTo_next vs ms k)
      have HZ := (show Hid _ from prRow_zero vs ms k)
      have HB : Hid (prAt vs ms k (k + 1) = prTo vs ms k) := by show prTo vs ms k ++ _ = _; rw [HZ.out, List.append_nil]
      have HE : Hid (prAt vs ms k vs.length = prTo vs ms (k + 1)) := HNX.out.symm
      go_wp2_with fail
      go_loopg [8, 10] (vs.length - (k + 1)) (fun gk2 sv2 i2 wr2 => ∃ (j : Nat) (hd2 : Hd), k < j ∧ j ≤ vs.length ∧ gk2 = vs.length - j ∧ i2 = .int .i64 j ∧ sv2 = .slice hd2.ao (prAt vs ms k j).length hd2.cap ∧ Owns wr2 hd2 (rowPr (prAt vs ms k j)) ∧ (∀ x, hd2.blk = some x → w1.heap.size ≤ x) ∧ Kept [] w1 wr2)
      case atStart => exact ⟨k + 1, hd, by omega, by omega, rfl, by go_num, by rw [HB.out], by rw [HB.out]; exact hO1, hN, hK⟩
      case round =>
        obtain ⟨j, hd2, hkj, hj, hg2, rfl, rfl, hO2, hN2, hK2⟩ := hrel
        clear hO1 hN hK
        have hPl := prAt_len vs ms k j (by omega) hvl (by omega)
        by_cases hlj : j < vs.length
        · have hA2 := hA1.still hK2
          have hOv : Owns wr hw (rowS vs) := hO.moved (fun x hx => (k1.trans hK2).block x (hO.lt hx) (by simp))
          rcases hOv.ways with ⟨_, h0, _⟩ | ⟨gv, curv, ev, ev2, ev3, -⟩
          · have : vs.length = 0 := h0
            omega
          have cv1 := hOv.cell ev k (.string vs[k]) (by simp [rowS, strs, hlt])
          have cv2 := hOv.cell ev j (.string vs[j]) (by simp [rowS, strs, hlj])
          have hgv0 := hO.lt (k := gv) (by unfold Hd.blk; rw [ev]; rfl)
          have hAO : AO = some ⟨gv, 0, none⟩ := by rw [← HAO.out]; exact ev
          subst hAO
          have hgv := lt_of_get ev2
          have hgk : gD vs k = vs[k] := getD_at vs k hlt
          have hgj : gD vs j = vs[j] := getD_at vs j hlj
          have HY : Hid (apartF vs.length ms k j = true → prAt vs ms k (j + 1) = prAt vs ms k j ++ [(gD vs k, gD vs j)]) := fun hp => by unfold prAt; rw [prRow_yes vs ms k j hkj hp, List.append_assoc]
          have HN0 : Hid (apartF vs.length ms k j = false → prAt vs ms k (j + 1) = prAt vs ms k j) := fun hp => by unfold prAt; rw [prRow_no vs ms k j hp]
          rw [hgk, hgj] at HY
          clear hgk hgj ev2 hOv
          have hki : (k : Int) < vs.length := by omega
          have hji : (j : Int) < vs.length := by omega
          have hk0 : (0 : Int) ≤ k := by omega
          have hj0 : (0 : Int) ≤ j := by omega
          generalize vs[k] = x at *
          generalize vs[j] = y at *
          cases hap : apartF vs.length ms k j
          · have HT := (show Hid _ from HN0.out hap)
            clear HY HN0
            go_wp2_with (go_at_call 90; refine (apart_any tb vs ms hv hm k j _ (by exact hA2) hmlen hvl hlt hlj).mono ?_; rintro e w9 ⟨rfl, hw9⟩; rw [hw9, hap])
            go_roundg (vs.length - (j + 1))
            case measure => omega
            case rel => exact ⟨j + 1, hd2, by omega, by omega, rfl, by go_num, by rw [HT.out], by rw [HT.out]; exact hO2, hN2, hK2⟩
          · have HT := (show Hid _ from HY.out hap)
            clear HY HN0
            generalize prAt vs ms k j = PL at *
            have s3 : Hid (∀ u ∈ ([.string x, .string y] : List Value), u.oneCell' = true) := by
              intro u hu; simp at hu; rcases hu with rfl | rfl <;> rfl
            have s4 : Hid ((rowPr PL).n + 1 ≤ maxLen) := by show _ ≤ _; simp only [rowPr]; unfold maxLen; omega
            have s5 : Hid (((rowPr PL).n + 1) * 32 ≤ 140737488355328) := by show _ ≤ _; simp only [rowPr]; omega
            have K4 : Hid (Kept [] wr (wr.alloc (.cells #[.string x, .string y] 128)).drew) := ((Kept.refl [] wr).alloc _).drew
            have hD : Hid (Owns (wr.alloc (.cells #[.string x, .string y] 128)).drew hd2 (rowPr PL)) := hO2.moved (fun z hz => K4.out.block z (hO2.lt hz) (by simp))
            have s2 : Hid (∀ j u, ([.string x, .string y] : List Value)[j]? = some u → (wr.alloc (.cells #[.string x, .string y] 128)).drew.cell? ((⟨wr.heap.size, 0, none⟩ : Addr).add j) = some u) := by
              intro j u hj
              rw [addr_add]
              have hk : (wr.alloc (.cells #[.string x, .string y] 128)).drew.heap[wr.heap.size]? = some (.cells #[.string x, .string y] 128 (0, 0)) := heap_alloc_new _ _
              rw [cell_of hk]; simpa using hj
            have HS : Hid (∀ w5, (wr.alloc (.cells #[.string x, .string y] 128)).drew.grownBy w5 hd2.blk → w5.cell? ⟨gv, k, none⟩ = some (.string x) ∧ w5.cell? ⟨gv, j, none⟩ = some (.string y)) := by
              intro w5 hgr
              have e : w5.heap[gv]? = wr.heap[gv]? := (hgr.block gv (Nat.lt_of_lt_of_le hgv K4.out.size) (fun e => by have := hN2 gv e.symm; have := k1.size; omega)).trans (K4.out.block gv hgv (by simp))
              exact ⟨by rw [World.cell?_of_block e]; exact cv1, by rw [World.cell?_of_block e]; exact cv2⟩
            go_upto_region 10 with (go_at_call 90; refine (apart_any tb vs ms hv hm k j _ (by exact hA2) hmlen hvl hlt hlj).mono ?_; rintro e w9 ⟨rfl, hw9⟩; rw [hw9, hap])
            go_region_held3 (fun w' => w'.cell? ⟨gv, k, none⟩ = some (.string x) ∧ w'.cell? ⟨gv, j, none⟩ = some (.string y)) (go_keep) ((refine step_append_row (by rfl) (.tmp 33) (.tmp 43) 122 (by rfl) i0 (.agg #[.string ⟨#[]⟩, .string ⟨#[]⟩]) 32 hd2 (rowPr PL) Tryz.underlying122 hi hz0 hz1 hz2 rfl Nat.two_pos (by simp [Act.eval] <;> rfl) hD.out ⟨wr.heap.size, 0, none⟩ 1 1 [.string x, .string y] (by simp [Act.eval]) rfl s2.out s3.out Nat.one_pos s4.out s5.out ?_; intro g5 cap5 w5 hw5 hgr5 hfresh5; obtain ⟨q1, q2⟩ := HS.out w5 hgr5))
            rw [rowPr_snoc PL (x, y), ← HT.out] at hw5
            have hK5 := (hK2.trans K4.out).grown hgr5 hN2
            have hg5 : w1.heap.size ≤ g5 := by
              rcases hfresh5 with e | e
              · exact hN2 g5 e
              · have := (hK2.trans K4.out).size; simp at e this; omega
            have hEl : Hid ((rowPr PL).n + 1 = (prAt vs ms k (j + 1)).length) := by show _ = _; rw [HT.out]; simp [rowPr]
            rw [hEl.out]
            clear hgr5 hfresh5 q1 q2
            go_wp2
            go_roundg (vs.length - (j + 1))
            case measure => omega
            case rel => exact ⟨j + 1, ⟨some ⟨g5, 0, none⟩, cap5⟩, by omega, by omega, rfl, by go_num, rfl, hw5, by intro x hx; simp [Hd.blk] at hx; omega, hK5⟩
        · have e : j = vs.length := by omega
          subst e
          rw [HE.out] at hO2 ⊢
          go_wp2
          go_roundg (vs.length - (k + 1))
          case measure => omega
          case rel => exact ⟨k + 1, hd2, by omega, rfl, by go_num, rfl, hO2, hN2, hK2⟩
    · have e : k = vs.length := by omega
      subst e
      go_wp2
      go_ret
      exact ⟨hd, rfl, hO1, fun x hx => by have := hN x hx; have := k1.size; omega, k1.trans hK⟩

end Go.Proofs.YtcipkfhpcbddiaaGreat

/- Package frames: Of, Lines. -/
namespace Go.Proofs.YtcipkfhpcbddiaaGreat
open Go.RowKit

/-- The mandatory pairs of an assertion. -/
def pairsF (l : List St) (a : Nat) : List Pr := prsF (varsOfF l (hypsF l a)) (marksF l a (varsOfF l (hypsF l a)))
def lineN (l : List St) (n : Nat) : ByteArray := match l[n]? with | some s => lineF s | none => ⟨#[]⟩
def pairLine (p : Pr) : ByteArray := ⟨#[36, 100, 32]⟩ ++ p.1 ++ ⟨#[32]⟩ ++ p.2
/-- The lines of a frame. -/
def linesF (l : List St) (a : Nat) : List ByteArray := (hypsF l a).map (lineN l) ++ (pairsF l a).map pairLine ++ [lineN l a]
theorem hyps_lt (l : List St) (a n : Nat) (h : n ∈ hypsF l a) : n < l.length := by
  unfold hypsF hypsTo at h
  exact List.mem_range.1 (List.mem_filter.1 h).1
theorem hyps_len (l : List St) (a : Nat) : (hypsF l a).length ≤ l.length := by
  unfold hypsF hypsTo
  have := List.length_filter_le (mandAt l (symsOfF l a) a) (List.range l.length)
  simpa using this
theorem fvars_len (l : List St) (hs : List Nat) : (varsOfF l hs).length ≤ hs.length := List.length_filterMap_le _ _
theorem build_frame (w : World) (a1 a2 : Option Addr) (n1 c1 n2 c2 : Nat) : (Instr.build 124 #[(0, .slice a1 n1 c1), (1, .slice a2 n2 c2)]).run Tryz.prog w = .ok (.agg #[.slice a1 n1 c1, .slice a2 n2 c2]) w :=
  run_build w 124 _ _ (by kernel_rfl)
attribute [local go_sem] build_frame

set_option maxHeartbeats 2000000 in
set_option maxRecDepth 100000 in
theorem of_any (b o a : Nat) (l : List St) (H : Nat → Hd) (w : World) (h : RecAt w b o l H) (ha : a < l.length) (ok : RecOk l) :
    Calls Tryz.prog 56 #[.pointer (some ⟨b, o, none⟩), .int .i64 a] w fun e w' => ∃ hh hp : Hd, e = .returned (.agg #[.slice hh.ao (hypsF l a).length hh.cap, .slice hp.ao (pairsF l a).length hp.cap]) ∧ Owns w' hh (rowN (hypsF l a)) ∧ Owns w' hp (rowPr (pairsF l a)) ∧ (∀ k, hh.blk = some k ∨ hp.blk = some k → w.heap.size ≤ k) ∧ Kept [] w w' := by
  have hlen := ok.len
  have hhl := hyps_len l a
  have hvl := fvars_len l (hypsF l a)
  have HLT : Hid (∀ x ∈ hypsF l a, x < l.length) := fun x hx => hyps_lt l a x hx
  have HP : Hid (pairsF l a = prsF (varsOfF l (hypsF l a)) (marksF l a (varsOfF l (hypsF l a)))) := rfl
  obtain ⟨W, hW⟩ : ∃ W, W = w.alloc (.cells #[.slice none 0 0, .slice none 0 0] 124) := ⟨_, rfl⟩
  have hK : Kept [] w W := by rw [hW]; exact (Kept.refl [] _).alloc _
  have hF : W.heap[w.heap.size]? = some (.cells #[.slice none 0 0, .slice none 0 0] 124 (0, 0)) := by rw [hW]; exact heap_alloc_new _ _
  have HW := (show Hid _ from hW.symm)
  clear hW
  have hrW := h.still hK
  have HHA := (show Hid _ from hypotheses_any b o a l H W hrW ha ok)
  go_enter Tryz.func56, Tryz.ntmps56
  go_wp2_with fail
  rw [HW.out]
  refine Calls.mono HHA.out ?_
  rintro e w1 ⟨hh, rfl, hO1, hN1, k1⟩
  go_wp2_with fail
  refine (variablesOf_any b o l H (hypsF l a) hh w1 (hrW.still k1) ok hO1 (by omega) HLT.out).mono ?_
  rintro e w2 ⟨hv, rfl, hO2, hN2, k2⟩
  go_wp2_with fail
  refine (pairsOf_any b o a l H hv (varsOfF l (hypsF l a)) w2 ((hrW.still k1).still k2) ok hO2 (by omega)).mono ?_
  rintro e w3 ⟨hp, rfl, hO3, hN3, k3⟩
  rw [← HP.out] at hO3 ⊢
  have hO13 : Owns w3 hh (rowN (hypsF l a)) := hO1.moved (fun x hx => (k2.trans k3).block x (hO1.lt hx) (by simp))
  have hF3 := ((k1.trans k2).trans k3).get hF (by simp)
  have hK3 : Kept [] w w3 := ((hK.trans k1).trans k2).trans k3
  have hs1 := (hK.trans k1).size
  have hs2 := ((hK.trans k1).trans k2).size
  have hq1 := k1.size
  have hq2 := k2.size
  have hsW := lt_of_get hF
  have hsw := hK.size
  have z0 : w3.cell? ⟨w.heap.size, 0, none⟩ = some (.slice none 0 0) := by rw [cell_of hF3]; rfl
  have z1 : w3.cell? ⟨w.heap.size, 1, none⟩ = some (.slice none 0 0) := by rw [cell_of hF3]; rfl
  have yf := free_of hF3
  have HO1 : Hid (∀ u v, Owns ((w3.setCell ⟨w.heap.size, 0, none⟩ u).setCell ⟨w.heap.size, 1, none⟩ v) hh (rowN (hypsF l a))) := fun u v => hO13.moved (fun x hx => (Below.heap_setCell _ _ _ _ (by have := hN1 x hx; show x ≠ w.heap.size; omega)).trans (Below.heap_setCell _ _ _ _ (by have := hN1 x hx; show x ≠ w.heap.size; omega)))
  have HO3 : Hid (∀ u v, Owns ((w3.setCell ⟨w.heap.size, 0, none⟩ u).setCell ⟨w.heap.size, 1, none⟩ v) hp (rowPr (pairsF l a))) := fun u v => hO3.moved (fun x hx => (Below.heap_setCell _ _ _ _ (by have := hN3 x hx; show x ≠ w.heap.size; omega)).trans (Below.heap_setCell _ _ _ _ (by have := hN3 x hx; show x ≠ w.heap.size; omega)))
  clear hO1 hO2 hO3 hO13
  go_wp2
  exact bodyPost_ret (v := .agg #[.slice hh.ao (hypsF l a).length hh.cap, .slice hp.ao (pairsF l a).length hp.cap]) (by simp [results, Tryz.results56, go_sem, z0, z1]) rfl
    ⟨hh, hp, rfl, HO1.out _ _, HO3.out _ _, fun k hk => hk.elim (fun hk => by have := hN1 k hk; omega) (fun hk => by have := hN3 k hk; omega),
      (hK3.setCell (Or.inr (Nat.le_refl _)) _).setCell (Or.inr (Nat.le_refl _)) _⟩

/-- A list as far as it was written. -/
def partL (L : List ByteArray) (k : Nat) : List ByteArray := L.take k ++ List.replicate (L.length - k) ⟨#[]⟩
theorem partL_len (L : List ByteArray) (k : Nat) (h : k ≤ L.length) : (partL L k).length = L.length := by simp [partL]; omega
theorem partL_next (L : List ByteArray) (k : Nat) (h : k < L.length) : partL L (k + 1) = (partL L k).set k L[k] := by
  unfold partL
  rw [take_snoc L k h]
  apply List.ext_getElem?
  intro i
  have hk : (L.take k).length = k := by simp; omega
  rcases Nat.lt_trichotomy i k with hi | hi | hi
  · rw [List.getElem?_set_ne (by omega), List.getElem?_append_left (by simp; omega), List.getElem?_append_left (by omega), List.getElem?_append_left (by omega)]
  · subst hi
    rw [List.getElem?_set_self (by simp; omega), List.getElem?_append_left (by simp; omega), List.getElem?_append_right (by omega), hk]
    simp
  · rw [List.getElem?_set_ne (by omega), List.getElem?_append_right (by simp; omega), List.getElem?_append_right (by omega)]
    simp only [List.length_append, hk, List.length_singleton, List.getElem?_replicate]
    by_cases h2 : i < L.length
    · rw [if_pos (by omega), if_pos (by omega)]
    · rw [if_neg (by omega), if_neg (by omega)]
theorem partL_end (L : List ByteArray) : partL L L.length = L := by simp [partL]
theorem strs_set (L : List ByteArray) (k : Nat) (x : ByteArray) : strs (L.set k x) = (strs L).set k (.string x) := by simp [strs, List.map_set]
/-- The lines in memory, as far as they were written. -/
def LnsAt (w : World) (g : Nat) (L : List ByteArray) (k : Nat) : Prop := w.heap[g]? = some (.cells (strs (partL L k)).toArray 9 (0, 0))
theorem LnsAt.next {w : World} {g : Nat} {L : List ByteArray} {k : Nat} {x : ByteArray} (h : LnsAt w g L k) (hx : L[k]? = some x) : LnsAt (w.setCell ⟨g, k, none⟩ (.string x)) g L (k + 1) := by
  obtain ⟨hk, rfl⟩ := List.getElem?_eq_some_iff.1 hx
  unfold LnsAt at h ⊢
  rw [block_setCell h, partL_next L k hk, strs_set, List.setIfInBounds_toArray]
theorem LnsAt.cell {w : World} {g : Nat} {L : List ByteArray} {k i : Nat} (h : LnsAt w g L k) (hk : k ≤ L.length) (hi : i < L.length) : ∃ x, w.cell? ⟨g, i, none⟩ = some (.string x) := by
  refine ⟨(partL L k)[i]'(by rw [partL_len L k hk]; exact hi), ?_⟩
  rw [cell_of h]
  simp [strs]
theorem LnsAt.kept {w w' : World} {g : Nat} {L : List ByteArray} {k : Nat} {S : List Nat} (h : LnsAt w g L k) (q : Kept S w w') (hg : g ∉ S) : LnsAt w' g L k := q.get h hg

/-- What lines are made of is not long. -/
def SzsOk (l : List St) : Prop := ∀ s ∈ l, s.kind ≠ 1 → SzOk s
theorem lines_len (l : List St) (a : Nat) : (linesF l a).length = (hypsF l a).length + (pairsF l a).length + 1 := by simp [linesF]; omega
theorem lines_hyp (l : List St) (a k : Nat) (h : k < (hypsF l a).length) (hq : (hypsF l a)[k] < l.length) : (linesF l a)[k]? = some (lineF l[(hypsF l a)[k]]) := by
  unfold linesF
  rw [List.getElem?_append_left (by simp; omega), List.getElem?_append_left (by simpa using h), List.getElem?_map, List.getElem?_eq_getElem h]
  simp [lineN, List.getElem?_eq_getElem hq]
theorem lines_pair (l : List St) (a j : Nat) (h : j < (pairsF l a).length) : (linesF l a)[(hypsF l a).length + j]? = some (pairLine (pairsF l a)[j]) := by
  unfold linesF
  rw [List.getElem?_append_left (by simp; omega), List.getElem?_append_right (by simp), List.getElem?_map]
  simp [h]
theorem lines_last (l : List St) (a : Nat) (ha : a < l.length) : (linesF l a)[(hypsF l a).length + (pairsF l a).length]? = some (lineF l[a]) := by
  unfold linesF
  rw [List.getElem?_append_right (by simp)]
  simp [lineN, List.getElem?_eq_getElem ha]
theorem kind_hyp (l : List St) (a n : Nat) (h : n ∈ hypsF l a) (hn : n < l.length) : l[n].kind = 2 ∨ l[n].kind = 3 := by
  unfold hypsF hypsTo at h
  obtain ⟨-, h2⟩ := List.mem_filter.1 h
  unfold mandAt at h2
  rw [List.getElem?_eq_getElem hn] at h2
  simp only [Bool.and_eq_true] at h2
  have := h2.2
  unfold mandF at this
  cases e2 : (l[n].kind == 2)
  · rw [e2] at this; right; simpa using this
  · left; simpa using e2
theorem gD_size (vs : List ByteArray) (i n : Nat) (h : ∀ x ∈ vs, x.size ≤ n) : (gD vs i).size ≤ n := by
  unfold gD
  rw [List.getD_eq_getElem?_getD]
  cases e : vs[i]? with
  | none => exact Nat.zero_le _
  | some x => exact h x (List.mem_of_getElem? e)
theorem pairs_size (l : List St) (a : Nat) (hz : SzsOk l) (p : Pr) (h : p ∈ pairsF l a) : p.1.size ≤ 100000 ∧ p.2.size ≤ 100000 := by
  have hv : ∀ x ∈ varsOfF l (hypsF l a), x.size ≤ 100000 := by
    intro x hx
    unfold varsOfF at hx
    obtain ⟨n, hn, he⟩ := List.mem_filterMap.1 hx
    have hnl := hyps_lt l a n hn
    unfold varOne at he
    rw [List.getElem?_eq_getElem hnl] at he
    simp only at he
    split at he
    · next h2 =>
      cases he
      have hk := kind_hyp l a n hn hnl
      have hs := hz l[n] (List.getElem_mem hnl) (by omega)
      unfold variableF
      split
      · next hc =>
        refine hs.syms _ ?_
        rw [List.getD_eq_getElem?_getD, List.getElem?_eq_getElem (show 1 < l[n].symbols.length by omega)]
        exact List.getElem_mem _
      · exact Nat.zero_le _
    · cases he
  unfold pairsF prsF prTo at h
  obtain ⟨i, -, h⟩ := List.mem_flatMap.1 h
  unfold prRow at h
  obtain ⟨j, -, rfl⟩ := List.mem_map.1 h
  exact ⟨gD_size _ _ _ hv, gD_size _ _ _ hv⟩
theorem d3_size : (⟨#[36, 100, 32]⟩ : ByteArray).size = 3 := rfl
theorem prsV_at (L : List Pr) (k : Nat) (h : k < L.length) : (prsV L)[k * 2]? = some (.string L[k].1) ∧ (prsV L)[k * 2 + 1]? = some (.string L[k].2) := by
  induction L generalizing k with
  | nil => simp at h
  | cons p L ih =>
    cases k with
    | zero => exact ⟨rfl, rfl⟩
    | succ k =>
      have := ih k (by simpa using h)
      have e : prsV (p :: L) = .string p.1 :: .string p.2 :: prsV L := rfl
      rw [e]
      refine ⟨?_, ?_⟩
      · rw [show (k + 1) * 2 = k * 2 + 1 + 1 by omega]; simpa using this.1
      · rw [show (k + 1) * 2 + 1 = k * 2 + 1 + 1 + 1 by omega]; simpa using this.2

set_option maxHeartbeats 3000000 in
set_option maxRecDepth 100000 in
theorem lines_any' (b o a : Nat) (l : List St) (H : Nat → Hd) (w : World) (h : RecAt w b o l H) (ha : a < l.length) (ok : RecOk l) (hz : SzsOk l) (hka : l[a].kind ≠ 1) :
    Calls Tryz.prog 48 #[.pointer (some ⟨b, o, none⟩), .int .i64 a] w fun e w' => ∃ g, e = .returned (.slice (some ⟨g, 0, none⟩) (linesF l a).length (linesF l a).length) ∧ LnsAt w' g (linesF l a) (linesF l a).length ∧ w.heap.size ≤ g ∧ Kept [] w w' := by
  obtain ⟨i0, hi, hz0, hz1, hz2⟩ := info_parts infoS
  have hlen := ok.len
  have hhl := hyps_len l a
  have hvl := fvars_len l (hypsF l a)
  have hpl : (pairsF l a).length ≤ 100000000 := prs_len _ _ (by omega)
  have HLL := (show Hid _ from lines_len l a)
  obtain ⟨N, HN⟩ : ∃ N, Hid ((linesF l a).length = N) := ⟨_, rfl⟩
  rw [HN.out] at HLL ⊢
  have HLh : Hid (∀ k (h : k < (hypsF l a).length) (hq : (hypsF l a)[k] < l.length), (linesF l a)[k]? = some (lineF l[(hypsF l a)[k]])) := fun k h hq => lines_hyp l a k h hq
  have HLp : Hid (∀ j (h : j < (pairsF l a).length), (linesF l a)[(hypsF l a).length + j]? = some (pairLine (pairsF l a)[j])) := fun j h => lines_pair l a j h
  have HLl : Hid ((linesF l a)[(hypsF l a).length + (pairsF l a).length]? = some (lineF l[a])) := lines_last l a ha
  have HPS := (show Hid _ from pairs_size l a hz)
  have HHK : Hid (∀ n ∈ hypsF l a, ∃ h : n < l.length, SzOk l[n]) := fun n hn => ⟨hyps_lt l a n hn, hz _ (List.getElem_mem _) (by have := kind_hyp l a n hn (hyps_lt l a n hn); omega)⟩
  have hsa := hz _ (List.getElem_mem ha) hka
  have HOF := (show Hid _ from of_any b o a l H w h ha ok)
  have m1 := fun w => run_make_row (P := Tryz.prog) w 22 9 i0 _ Tryz.underlying22 hi hz0 N 1 hz1 (by rw [hz2]; have := HLL.out; omega) (by have := HLL.out; omega)
  obtain ⟨mc, hmc⟩ : ∃ mc, mc = madeCells (Value.string ⟨#[]⟩).cells (N * 1) := ⟨_, rfl⟩
  rw [← hmc] at m1
  have HMC : Hid (mc = (strs (partL (linesF l a) 0)).toArray) := by
    show _ = _
    rw [hmc]
    have e : (Value.string ⟨#[]⟩).cells = #[.string ⟨#[]⟩] := rfl
    rw [e, made_all]
    simp [partL, strs, HN.out]
  clear hmc hz
  generalize hL : linesF l a = L at *
  generalize hHy : hypsF l a = hs at *
  generalize hPr : pairsF l a = ps at *
  clear hL hHy hPr hvl
  have hNi : (hs.length : Int) + (ps.length : Int) + 1 = (N : Int) := by have := HLL.out; omega
  have hNb : N ≤ 200000000 := by have := HLL.out; omega
  have hnN : hs.length + ps.length < N := by have := HLL.out; omega
  go_enter Tryz.func48, Tryz.ntmps48
  go_wp2_with fail
  refine Calls.mono HOF.out ?_
  rintro e w1 ⟨hh, hp, rfl, hO1, hO2, hN1, k1⟩
  obtain ⟨AH, HAH⟩ : ∃ AH, Hid (hh.ao = AH) := ⟨_, rfl⟩
  obtain ⟨AP, HAP⟩ : ∃ AP, Hid (hp.ao = AP) := ⟨_, rfl⟩
  rw [HAH.out, HAP.out]
  obtain ⟨X, hX⟩ : ∃ X, X = w1.alloc (.cells #[.slice AH hs.length hh.cap, .slice AP ps.length hp.cap] 124) := ⟨_, rfl⟩
  have kX : Kept [] w1 X := by rw [hX]; exact (Kept.refl [] _).alloc _
  have BX : X.heap[w1.heap.size]? = some (.cells #[.slice AH hs.length hh.cap, .slice AP ps.length hp.cap] 124 (0, 0)) := by rw [hX]; exact heap_alloc_new _ _
  have HX := (show Hid _ from hX.symm)
  clear hX
  obtain ⟨Y, hY⟩ : ∃ Y, Y = X.alloc (.cells mc 9) := ⟨_, rfl⟩
  have kY : Kept [] X Y := by rw [hY]; exact (Kept.refl [] _).alloc _
  have BY : LnsAt Y X.heap.size L 0 := by unfold LnsAt; rw [hY, ← HMC.out]; exact heap_alloc_new _ _
  have HY := (show Hid _ from hY.symm)
  clear hY
  have u0 : X.cell? ⟨w1.heap.size, 0, none⟩ = some (.slice AH hs.length hh.cap) := by rw [cell_of BX]; rfl
  have u1 : X.cell? ⟨w1.heap.size, 1, none⟩ = some (.slice AP ps.length hp.cap) := by rw [cell_of BX]; rfl
  have hFX := lt_of_get BX
  have hrX := h.still (k1.trans kX)
  have hsX := (k1.trans kX).size
  have hO1X : Owns X hh (rowN hs) := hO1.moved (fun x hx => kX.block x (hO1.lt hx) (by simp))
  have hO2X : Owns X hp (rowPr ps) := hO2.moved (fun x hx => kX.block x (hO2.lt hx) (by simp))
  go_upto_region 3 with fail
  rw [HX.out]
  go_upto_region 4 with fail
  rw [HY.out]
  clear u0 u1 m1
  generalize hG : X.heap.size = G at *
  go_wp2
  go_loopg [8] hs.length (fun gk i wr => ∃ (k : Nat), k ≤ hs.length ∧ gk = hs.length - k ∧ i = .int .i64 k ∧ LnsAt wr G L k ∧ Kept [] X wr)
  case atStart => exact ⟨0, by omega, by omega, rfl, BY, kY⟩
  case round =>
    obtain ⟨k, hk, hg, rfl, hLn, hK⟩ := hrel
    have hrr := hrX.still hK
    have BXr := hK.get BX (by simp)
    have hFr := lt_of_get BXr
    have u0 : wr.cell? ⟨w1.heap.size, 0, none⟩ = some (.slice AH hs.length hh.cap) := by rw [cell_of BXr]; rfl
    have u1 : wr.cell? ⟨w1.heap.size, 1, none⟩ = some (.slice AP ps.length hp.cap) := by rw [cell_of BXr]; rfl
    by_cases hlt : k < hs.length
    · have hOHr : Owns wr hh (rowN hs) := hO1X.moved (fun x hx => hK.block x (hO1X.lt hx) (by simp))
      rcases hOHr.ways with ⟨_, h0, _⟩ | ⟨gh, curh, eh, eh2, eh3, -⟩
      · have : hs.length = 0 := h0
        omega
      have ch := hOHr.cell eh k (.int .i64 hs[k]) (nums_at hs k hlt)
      have hAH : AH = some ⟨gh, 0, none⟩ := by rw [← HAH.out]; exact eh
      subst hAH
      obtain ⟨hql, hqs⟩ := HHK.out hs[k] (List.getElem_mem hlt)
      have HLk := (show Hid _ from HLh.out k hlt hql)
      have hki : (k : Int) < hs.length := by omega
      clear eh eh2 eh3 hOHr
      generalize hs[k] = q at *
      have hsl := ok.syms q hql
      have hqv := (hrr.sts.syms q l[q] (List.getElem?_eq_getElem hql)).view
      go_wp2_with fail
      refine (statement_any b o q l H wr hrr hql).mono ?_
      rintro e w3 ⟨rfl, k3⟩
      go_wp2_with fail
      refine (line_any l[q] _ _ w3 (hqv.still k3) hsl hqs).mono ?_
      rintro e w4 ⟨rfl, k4⟩
      have K34 := k3.trans k4
      have hLn4 := hLn.kept K34 (by simp)
      obtain ⟨x0, cx⟩ := hLn4.cell (i := k) (by have := HN.out; omega) (by have := HN.out; omega)
      have hfr := free_of hLn4
      have hGw := lt_of_get hLn4
      have HNX := (show Hid _ from hLn4.next HLk.out)
      have hKK := hK.trans K34
      have hkN : (k : Int) < (N : Int) := by omega
      generalize lineF l[q] = tx at *
      go_wp2
      go_roundg (hs.length - (k + 1))
      case measure => omega
      case rel => exact ⟨k + 1, by omega, rfl, by go_num, HNX.out, hKK.setCell (Or.inr (Nat.le_of_eq hG)) _⟩
    · have e : k = hs.length := by omega
      subst e
      clear u0
      go_wp2
      go_loopg [9] ps.length (fun gk2 i2 wr2 => ∃ (j : Nat), j ≤ ps.length ∧ gk2 = ps.length - j ∧ i2 = .int .i64 j ∧ LnsAt wr2 G L (hs.length + j) ∧ Kept [] X wr2)
      case atStart => exact ⟨0, by omega, by omega, rfl, hLn, hK⟩
      case round =>
        obtain ⟨j, hj, hg2, rfl, hLn2, hK2⟩ := hrel
        clear hLn hK hrr BXr hFr u1
        have BX2 := hK2.get BX (by simp)
        have hF2 := lt_of_get BX2
        have u1 : wr.cell? ⟨w1.heap.size, 1, none⟩ = some (.slice AP ps.length hp.cap) := by rw [cell_of BX2]; rfl
        by_cases hlj : j < ps.length
        · have hOPr : Owns wr hp (rowPr ps) := hO2X.moved (fun x hx => hK2.block x (hO2X.lt hx) (by simp))
          rcases hOPr.ways with ⟨_, h0, _⟩ | ⟨gp, curp, ep, ep2, ep3, -⟩
          · have : ps.length = 0 := h0
            omega
          obtain ⟨v1, v2⟩ := prsV_at ps j hlj
          have cp1 := hOPr.cell ep (j * 2) _ v1
          have cp2 := hOPr.cell ep (j * 2 + 1) _ v2
          have hgp := lt_of_get ep2
          have hAP : AP = some ⟨gp, 0, none⟩ := by rw [← HAP.out]; exact ep
          subst hAP
          have HLk := (show Hid _ from HLp.out j hlj)
          obtain ⟨z1, z2⟩ := HPS.out _ (List.getElem_mem hlj)
          have hji : (j : Int) < ps.length := by omega
          have hj0 : (0 : Int) ≤ j := by omega
          have hx0 : (0 : Int) ≤ (hs.length : Int) + (j : Int) := by omega
          have hx1 : (hs.length : Int) + (j : Int) < (N : Int) := by omega
          have hwr : IntKind.i64.wrap ((hs.length : Int) + (j : Int)) = (hs.length : Int) + (j : Int) := by rw [IntKind.wrap_i64]; omega
          have htn : ((hs.length : Int) + (j : Int)).toNat = hs.length + j := by omega
          have hgpX := hO2X.lt (k := gp) (by unfold Hd.blk; rw [ep]; rfl)
          have ne1 : G ≠ w1.heap.size := by omega
          have ne2 : w1.heap.size ≠ G := by omega
          have ne3 : G ≠ gp := by omega
          have ne4 : gp ≠ G := by omega
          clear ep ep2 ep3 hOPr v1 v2
          generalize ps[j] = pp at *
          obtain ⟨p1, p2⟩ := pp
          simp only at cp1 cp2 z1 z2
          have HT : Hid (⟨#[36, 100, 32]⟩ ++ p1 ++ ⟨#[32]⟩ ++ p2 = pairLine (p1, p2)) := rfl
          have n1 : ¬ 9223372036854775807 < 3 + p1.size := by omega
          have n2 : ¬ 9223372036854775807 < 3 + p1.size + 1 := by omega
          have n3 : ¬ 9223372036854775807 < 3 + p1.size + 1 + p2.size := by omega
          obtain ⟨x0, cx⟩ := hLn2.cell (i := hs.length + j) (by have := HN.out; omega) (by have := HN.out; omega)
          have hfr := free_of hLn2
          have hGw := lt_of_get hLn2
          have HNX : Hid (LnsAt (wr.setCell ⟨G, hs.length + j, none⟩ (.string (pairLine (p1, p2)))).drew G L (hs.length + j + 1)) := (hLn2.next HLk.out).kept (Kept.refl [] _).drew (by simp)
          go_upto_region 11 with fail
          go_region_held3 (fun w' => w'.cell? ⟨w1.heap.size, 1, none⟩ = some (.slice (some ⟨gp, 0, none⟩) ps.length hp.cap) ∧ w'.cell? ⟨gp, j * 2, none⟩ = some (.string p1) ∧ w'.cell? ⟨gp, j * 2 + 1, none⟩ = some (.string p2)) (go_keep) (fail)
          rw [HT.out]
          go_wp2
          go_roundg (ps.length - (j + 1))
          case measure => omega
          case rel => exact ⟨j + 1, by omega, rfl, by go_num, HNX.out, (hK2.setCell (Or.inr (Nat.le_of_eq hG)) _).drew⟩
        · have e : j = ps.length := by omega
          subst e
          have hrr := hrX.still hK2
          have hqv := (hrr.sts.syms a l[a] (List.getElem?_eq_getElem ha)).view
          have hsl := ok.syms a ha
          have htn : ((hs.length : Int) + (ps.length : Int)).toNat = hs.length + ps.length := by omega
          have hNs : (N : Int) - 1 = (hs.length : Int) + (ps.length : Int) := by omega
          go_wp2_with fail
          refine (statement_any b o a l H wr hrr ha).mono ?_
          rintro e w3 ⟨rfl, k3⟩
          go_wp2_with fail
          refine (line_any l[a] _ _ w3 (hqv.still k3) hsl hsa).mono ?_
          rintro e w4 ⟨rfl, k4⟩
          have K34 := k3.trans k4
          have hLn4 := hLn2.kept K34 (by simp)
          obtain ⟨x0, cx⟩ := hLn4.cell (i := hs.length + ps.length) (by have := HN.out; omega) (by have := HN.out; omega)
          have hfr := free_of hLn4
          have hGw := lt_of_get hLn4
          have HNX := (show Hid _ from hLn4.next HLl.out)
          have hKK := hK2.trans K34
          have hx0 : (0 : Int) ≤ (hs.length : Int) + (ps.length : Int) := by omega
          have hx1 : (hs.length : Int) + (ps.length : Int) < (N : Int) := by omega
          have HE : Hid (hs.length + ps.length + 1 = N) := HLL.out.symm
          rw [HE.out] at HNX
          generalize lineF l[a] = tx at *
          go_wp2
          go_ret
          exact ⟨G, rfl, HNX.out, by omega, (k1.trans (kX.trans hKK)).setCell (Or.inr (by show w.heap.size ≤ G; omega)) _⟩

end Go.Proofs.YtcipkfhpcbddiaaGreat

/- Package metaproofkeep: a frame that was read: the form, as a value and in memory. -/
namespace Go.Proofs.YtcipkfhpcbddiaaGreat
open Go.RowKit

structure Fm where
  hyps : List ByteArray
  which : List Int
  vars : List ByteArray
  types : List ByteArray
  ess : List (List ByteArray)
  left : List ByteArray
  right : List ByteArray
  goal : List ByteArray
def fm0 : Fm := ⟨[], [], [], [], [], [], [], []⟩
def isD (ws : List ByteArray) : Bool := (gD ws 0).toList == [36, 100]
def isKey (ws : List ByteArray) (c : UInt8) : Bool := (gD ws 1).toList == [36, c]
/-- One line more. -/
def stepF (f : Fm) (ws : List ByteArray) : Fm :=
  if isD ws = true then { f with left := f.left ++ [gD ws 1], right := f.right ++ [gD ws 2] }
  else if isKey ws 102 = true ∧ ws.length = 4 then { f with hyps := f.hyps ++ [gD ws 0], which := f.which ++ [(f.vars.length : Int)], types := f.types ++ [gD ws 2], vars := f.vars ++ [gD ws 3] }
  else if isKey ws 101 = true then { f with hyps := f.hyps ++ [gD ws 0], which := f.which ++ [-1 - (f.ess.length : Int)], ess := f.ess ++ [ws.drop 2] }
  else { f with goal := ws.drop 2 }
def formTo (L : List ByteArray) (k : Nat) : Fm := (L.take k).foldl (fun f x => stepF f (splitF x)) fm0
theorem formTo_next (L : List ByteArray) (k : Nat) (h : k < L.length) : formTo L (k + 1) = stepF (formTo L k) (splitF L[k]) := by
  unfold formTo; rw [take_snoc L k h, List.foldl_append]; rfl
def formF (L : List ByteArray) : Fm := formTo L L.length
/-- A line that a frame may have. -/
structure LineOk (lab : ByteArray) (last : Bool) (x : ByteArray) : Prop where
  size : x.size ≤ 1073741824
  len : 3 ≤ (splitF x).length
  way : isD (splitF x) = true ∨ (isD (splitF x) = false ∧ ((isKey (splitF x) 102 = true ∧ (splitF x).length = 4) ∨ (isKey (splitF x) 102 = false ∧ (isKey (splitF x) 101 = true ∨ (isKey (splitF x) 101 = false ∧ (isKey (splitF x) 97 = true ∨ isKey (splitF x) 112 = true) ∧ ((gD (splitF x) 0).toList == lab.toList) = true ∧ last = true)))))

def rowI (l : List Int) : Row := ⟨3, 1, l.length, l.map (Value.int .i64)⟩
theorem rowI_snoc (l : List Int) (x : Int) : (⟨(rowI l).e, (rowI l).size, (rowI l).n + 1, (rowI l).xs ++ [.int .i64 x]⟩ : Row) = rowI (l ++ [x]) := by simp [rowI]
def fmL (lab : ByteArray) (lv : Value) (f : Fm) (es : List Ex) (hg : Hd) (H : Nat → Hd) : List Value :=
  [.string lab, lv, .slice (H 0).ao f.hyps.length (H 0).cap, .slice (H 1).ao f.which.length (H 1).cap, .slice (H 2).ao f.vars.length (H 2).cap, .slice (H 3).ao f.types.length (H 3).cap, .slice (H 4).ao es.length (H 4).cap, .slice (H 5).ao f.left.length (H 5).cap, .slice (H 6).ao f.right.length (H 6).cap, .slice hg.ao f.goal.length hg.cap]
def fmR (f : Fm) (es : List Ex) : Nat → Row
  | 0 => rowS f.hyps
  | 1 => rowI f.which
  | 2 => rowS f.vars
  | 3 => rowS f.types
  | 4 => rowE es
  | 5 => rowS f.left
  | 6 => rowS f.right
  | _ + 7 => rowS []
/-- The form in memory; all of it lies from block n on. -/
structure FmIs (w : World) (F n : Nat) (lab : ByteArray) (lv : Value) (f : Fm) (es : List Ex) (hg : Hd) (H : Nat → Hd) : Prop where
  bag : BagIs w F 67 (fmL lab lv f es hg H) (fmR f es) H
  new : n ≤ F ∧ ∀ k, InH H k → n ≤ k
  exs : ∀ e ∈ es, ExOk w F H e
  ess : es.map (·.xs) = f.ess
  gl : View w hg f.goal ∧ ∀ x, hg.blk = some x → x < w.heap.size ∧ x ≠ F ∧ ¬ InH H x
theorem FmIs.still {w w' : World} {F n : Nat} {lab : ByteArray} {lv : Value} {f : Fm} {es : List Ex} {hg : Hd} {H : Nat → Hd} (h : FmIs w F n lab lv f es hg H) (k : Kept [] w w') : FmIs w' F n lab lv f es hg H :=
  ⟨h.bag.still k, h.new, fun e he => (h.exs e he).still k, h.ess, h.gl.1.still k, fun x hx => ⟨Nat.lt_of_lt_of_le (h.gl.2 x hx).1 k.size, (h.gl.2 x hx).2⟩⟩
/-- Behind an append to a list of the form's. -/
theorem FmIs.app {w w1 : World} {F n : Nat} {lab : ByteArray} {lv : Value} {f f' : Fm} {es es' : List Ex} {hg : Hd} {H : Nat → Hd} (h : FmIs w F n lab lv f es hg H) (hn : n ≤ w.heap.size) (c i g cap' m : Nat) (r : Row)
    (hw1 : Owns w1 ⟨some ⟨g, 0, none⟩, cap'⟩ r) (hr : r = fmR f' es' i) (hgr : w.grownBy w1 (H i).blk) (hfresh : (H i).blk = some g ∨ w.heap.size ≤ g)
    (hrow : ∀ j, j ≠ i → fmR f' es' j = fmR f es j) (v0 : Value) (hv : (fmL lab lv f es hg H)[c]? = some v0) (hl : (fmL lab lv f es hg H).set c (.slice (some ⟨g, 0, none⟩) m cap') = fmL lab lv f' es' hg (upd H i ⟨some ⟨g, 0, none⟩, cap'⟩))
    (hex : ∀ e ∈ es', ExOk w F H e) (hes : es'.map (·.xs) = f'.ess) (hgo : f'.goal = f.goal) :
    w1.cell? ⟨F, c, none⟩ = some v0 ∧ w1.frozen? ⟨F, c, none⟩ = false ∧
    Hid (FmIs (w1.setCell ⟨F, c, none⟩ (.slice (some ⟨g, 0, none⟩) m cap')) F n lab lv f' es' hg (upd H i ⟨some ⟨g, 0, none⟩, cap'⟩) ∧
      Turned F w H (w1.setCell ⟨F, c, none⟩ (.slice (some ⟨g, 0, none⟩) m cap')) (upd H i ⟨some ⟨g, 0, none⟩, cap'⟩)) := by
  obtain ⟨a1, a2, a3⟩ := h.bag.app (rows' := fmR f' es') c i g cap' m r hw1 hr hgr hfresh hrow v0 hv hl
  obtain ⟨b1, b2⟩ := a3.out
  refine ⟨a1, a2, ⟨⟨b1, ⟨h.new.1, ?_⟩, fun e he => (hex e he).turned b2, hes, ?_, ?_⟩, b2⟩⟩
  · intro k hk
    rcases b2.2 k hk with hk | hk
    · exact h.new.2 k hk
    · omega
  · rw [hgo]
    refine h.gl.1.keptP b2.1 (fun x hx => ?_)
    obtain ⟨_, h2, h3⟩ := h.gl.2 x hx
    rintro (e | e)
    · exact h2 e
    · exact h3 e
  · intro x hx
    obtain ⟨h1, h2, h3⟩ := h.gl.2 x hx
    exact ⟨Nat.lt_of_lt_of_le h1 b2.1.size, h2, b2.fresh x h1 h3⟩
/-- What such an append leaves of what was there ahead of the form. -/
theorem Kept.turned {w w1 w2 : World} {F : Nat} {H H' : Nat → Hd} (k : Kept [] w w1) (t : Turned F w1 H w2 H') (hF : w.heap.size ≤ F) (hH : ∀ x, InH H x → w.heap.size ≤ x) : Kept [] w w2 :=
  ⟨t.1.os.trans k.os, t.1.tape.trans k.tape, t.1.output.trans k.output, Nat.le_trans k.size t.1.size, fun i hi _ => (t.1.block i (Nat.lt_of_lt_of_le hi k.size) (fun q => q.elim (fun e => by omega) (fun e => by have := hH i e; omega))).trans (k.block i hi (by simp))⟩
/-- Behind the goal. -/
theorem FmIs.goal {w : World} {F n : Nat} {lab : ByteArray} {lv : Value} {f : Fm} {es : List Ex} {hg : Hd} {H : Nat → Hd} (h : FmIs w F n lab lv f es hg H) (g' : List ByteArray) (hg' : Hd) (hv : View w hg' g') (hf : ∀ x, hg'.blk = some x → x < w.heap.size ∧ x ≠ F ∧ ¬ InH H x) :
    FmIs (w.setCell ⟨F, 9, none⟩ (.slice hg'.ao g'.length hg'.cap)) F n lab lv { f with goal := g' } es hg' H ∧ Turned F w H (w.setCell ⟨F, 9, none⟩ (.slice hg'.ao g'.length hg'.cap)) H := by
  obtain ⟨b1, b2⟩ := h.bag.set 9 (.slice hg'.ao g'.length hg'.cap)
  refine ⟨⟨b1, h.new, fun e he => (h.exs e he).turned b2, h.ess, ?_, ?_⟩, b2⟩
  · refine hv.keptP b2.1 (fun x hx => ?_)
    obtain ⟨_, h2, h3⟩ := hf x hx
    rintro (e | e)
    · exact h2 e
    · exact h3 e
  · intro x hx
    obtain ⟨h1, h2, h3⟩ := hf x hx
    exact ⟨Nat.lt_of_lt_of_le h1 b2.1.size, h2, h3⟩

/-- The form, its lines and the words of a line, on the way. -/
structure FmSt (w0 w : World) (F g : Nat) (lab : ByteArray) (L : List ByteArray) (f : Fm) (es : List Ex) (hg : Hd) (H : Nat → Hd) (gt tc : Nat) (ws : List ByteArray) : Prop where
  fm : FmIs w F w0.heap.size lab (.slice (some ⟨g, 0, none⟩) L.length L.length) f es hg H
  lns : LnsAt w g L L.length
  gf : w0.heap.size ≤ g ∧ g ≠ F ∧ ¬ InH H g
  tw : Owns w ⟨some ⟨gt, 0, none⟩, tc⟩ (rowS ws)
  tf : gt ≠ F ∧ ¬ InH H gt
  kept : Kept [] w0 w
theorem FmSt.still {w0 w w' : World} {F g : Nat} {lab : ByteArray} {L : List ByteArray} {f : Fm} {es : List Ex} {hg : Hd} {H : Nat → Hd} {gt tc : Nat} {ws : List ByteArray} (h : FmSt w0 w F g lab L f es hg H gt tc ws) (k : Kept [] w w') : FmSt w0 w' F g lab L f es hg H gt tc ws :=
  ⟨h.fm.still k, h.lns.kept k (by simp), h.gf, h.tw.moved (fun x hx => k.block x (h.tw.lt hx) (by simp)), h.tf, h.kept.trans k⟩
theorem FmSt.turn {w0 w w' : World} {F g : Nat} {lab : ByteArray} {L : List ByteArray} {f f' : Fm} {es es' : List Ex} {hg hg' : Hd} {H H' : Nat → Hd} {gt tc : Nat} {ws : List ByteArray} (h : FmSt w0 w F g lab L f es hg H gt tc ws)
    (b : FmIs w' F w0.heap.size lab (.slice (some ⟨g, 0, none⟩) L.length L.length) f' es' hg' H') (t : Turned F w H w' H') : FmSt w0 w' F g lab L f' es' hg' H' gt tc ws := by
  have hgl := lt_of_get h.lns
  have htl := h.tw.lt (k := gt) rfl
  refine ⟨b, ?_, ⟨h.gf.1, h.gf.2.1, t.fresh g hgl h.gf.2.2⟩, ?_, ⟨h.tf.1, t.fresh gt htl h.tf.2⟩, h.kept.turned t h.fm.new.1 h.fm.new.2⟩
  · exact t.1.get h.lns (by rintro (e | e); exact h.gf.2.1 e; exact h.gf.2.2 e)
  · refine h.tw.moved (fun x hx => t.1.block x (h.tw.lt hx) ?_)
    have e : x = gt := by simp [Hd.blk] at hx; exact hx.symm
    subst e
    rintro (e | e)
    · exact h.tf.1 e
    · exact h.tf.2 e
theorem FmSt.app {w0 w w1 : World} {F g : Nat} {lab : ByteArray} {L : List ByteArray} {f f' : Fm} {es es' : List Ex} {hg : Hd} {H : Nat → Hd} {gt tc : Nat} {ws : List ByteArray} (h : FmSt w0 w F g lab L f es hg H gt tc ws) (c i g5 cap' m : Nat) (r : Row)
    (hw1 : Owns w1 ⟨some ⟨g5, 0, none⟩, cap'⟩ r) (hr : r = fmR f' es' i) (hgr : w.grownBy w1 (H i).blk) (hfresh : (H i).blk = some g5 ∨ w.heap.size ≤ g5)
    (hrow : ∀ j, j ≠ i → fmR f' es' j = fmR f es j) (v0 : Value) (hv : (fmL lab (.slice (some ⟨g, 0, none⟩) L.length L.length) f es hg H)[c]? = some v0) (hl : (fmL lab (.slice (some ⟨g, 0, none⟩) L.length L.length) f es hg H).set c (.slice (some ⟨g5, 0, none⟩) m cap') = fmL lab (.slice (some ⟨g, 0, none⟩) L.length L.length) f' es' hg (upd H i ⟨some ⟨g5, 0, none⟩, cap'⟩))
    (hex : ∀ e ∈ es', ExOk w F H e) (hes : es'.map (·.xs) = f'.ess) (hgo : f'.goal = f.goal) :
    w1.cell? ⟨F, c, none⟩ = some v0 ∧ w1.frozen? ⟨F, c, none⟩ = false ∧
    Hid (FmSt w0 (w1.setCell ⟨F, c, none⟩ (.slice (some ⟨g5, 0, none⟩) m cap')) F g lab L f' es' hg (upd H i ⟨some ⟨g5, 0, none⟩, cap'⟩) gt tc ws) := by
  obtain ⟨a1, a2, a3⟩ := h.fm.app h.kept.size c i g5 cap' m r hw1 hr hgr hfresh hrow v0 hv hl hex hes hgo
  exact ⟨a1, a2, h.turn a3.out.1 a3.out.2⟩
theorem FmSt.word {w0 w : World} {F g : Nat} {lab : ByteArray} {L : List ByteArray} {f : Fm} {es : List Ex} {hg : Hd} {H : Nat → Hd} {gt tc : Nat} {ws : List ByteArray} (h : FmSt w0 w F g lab L f es hg H gt tc ws) (j : Nat) (x : ByteArray) (hj : ws[j]? = some x) : w.cell? ⟨gt, j, none⟩ = some (.string x) :=
  h.tw.cell rfl j (.string x) (by simp [rowS, strs, hj])
theorem FmSt.cell {w0 w : World} {F g : Nat} {lab : ByteArray} {L : List ByteArray} {f : Fm} {es : List Ex} {hg : Hd} {H : Nat → Hd} {gt tc : Nat} {ws : List ByteArray} (h : FmSt w0 w F g lab L f es hg H gt tc ws) (i : Nat) (v : Value) (hv : (fmL lab (.slice (some ⟨g, 0, none⟩) L.length L.length) f es hg H)[i]? = some v) : w.cell? ⟨F, i, none⟩ = some v := by
  rw [h.fm.bag.cell]; exact hv
theorem FmSt.lts {w0 w : World} {F g : Nat} {lab : ByteArray} {L : List ByteArray} {f : Fm} {es : List Ex} {hg : Hd} {H : Nat → Hd} {gt tc : Nat} {ws : List ByteArray} (h : FmSt w0 w F g lab L f es hg H gt tc ws) : F < w.heap.size ∧ gt < w.heap.size ∧ g < w.heap.size := ⟨h.fm.bag.lt, h.tw.lt (k := gt) rfl, lt_of_get h.lns⟩
/-- The words behind the first two. -/
theorem FmSt.rest {w0 w : World} {F g : Nat} {lab : ByteArray} {L : List ByteArray} {f : Fm} {es : List Ex} {hg : Hd} {H : Nat → Hd} {gt tc : Nat} {ws : List ByteArray} (h : FmSt w0 w F g lab L f es hg H gt tc ws) : ExOk w F H ⟨⟨some ⟨gt, 2, none⟩, tc - 2⟩, ws.drop 2⟩ := by
  have hv := h.tw.view
  refine ⟨?_, ⟨_, rfl⟩, fun x hx => ?_⟩
  · rcases hv with hn | ⟨g', off, cur, t, e1, e2, e3, e4, e5⟩
    · left; rw [hn]; rfl
    · right
      cases e1
      refine ⟨gt, 2, cur, t, rfl, e2, ?_, ?_, ?_⟩
      · intro j x hj
        rw [List.getElem?_drop] at hj
        have := e3 (2 + j) x hj
        rw [Nat.zero_add] at this
        exact this
      · simp only [List.length_drop]
        have : ws.length ≤ tc := e4
        omega
      · have : tc ≤ 9223372036854775807 := e5
        show tc - 2 ≤ _
        omega
  · have e : x = gt := by simp [Hd.blk] at hx; exact hx.symm
    subst e
    exact ⟨h.lts.2.1, h.tf⟩
theorem build_form (w : World) (s : ByteArray) : (Instr.build 67 #[(0, .string s)]).run Tryz.prog w = .ok (.agg #[.string s, .slice none 0 0, .slice none 0 0, .slice none 0 0, .slice none 0 0, .slice none 0 0, .slice none 0 0, .slice none 0 0, .slice none 0 0, .slice none 0 0]) w :=
  run_build w 67 _ _ (by kernel_rfl)

end Go.Proofs.YtcipkfhpcbddiaaGreat

/- The lines of a frame, read as a form: what a record of names gives. No walk. -/
namespace Go.Proofs.YtcipkfhpcbddiaaGreat
open Go.RowKit

/-- A word that is not long. -/
def WdS (x : ByteArray) : Prop := Wd x ∧ x.size ≤ 1024
theorem rdM_nmS (T : ByteArray) (hT : T.size ≤ 1024) : Nm WdS (rdM T).2 := readTo_nm _ T (fun k hk h hd => ⟨nextF_wd T k hk h hd, nextF_text T k hT⟩) _ 0 _ (Nat.zero_le _) Nm.empty
theorem Nm.szs {d : Db} (h : Nm WdS d) : SzsOk d.sts := by
  intro s hs hk
  have hso := h.sts s hs
  have hl := hso.lab (hso.kind.resolve_left hk)
  exact ⟨by have := hl.1.2; omega, fun x hx => by have := (hso.syms x hx).2; omega⟩
theorem isD_of (a : ByteArray) (r : List ByteArray) (h : Wd a) : isD (a :: r) = false := h.notKey 100
theorem isD_pair (r : List ByteArray) : isD (⟨#[36, 100]⟩ :: r) = true := by
  show ((⟨#[36, 100]⟩ : ByteArray).toList == [36, 100]) = true
  rw [ByteArray.toList_eq]; rfl
theorem key_of (a : ByteArray) (k : Int) (r : List ByteArray) (c : UInt8) : isKey (a :: keyF k :: r) c = ((keyF k).toList == [36, c]) := rfl
theorem keyF_2 : keyF 2 = ⟨#[36, 102]⟩ := rfl
theorem keyF_3 : keyF 3 = ⟨#[36, 101]⟩ := rfl
theorem keyF_4 : keyF 4 = ⟨#[36, 97]⟩ := rfl
theorem keyF_5 : keyF 5 = ⟨#[36, 112]⟩ := rfl
theorem tl2 (c : UInt8) : (⟨#[36, c]⟩ : ByteArray).toList = [36, c] := by rw [ByteArray.toList_eq]
/-- A statement of the record as a line's words. -/
structure StW (s : St) : Prop where
  lab : Wd s.label
  syms : ∀ x ∈ s.symbols, Wd x
  pos : 0 < s.symbols.length
  two : s.kind = 2 → s.symbols.length = 2
  sz : (lineF s).size ≤ 1073741824
theorem Nm.stw {d : Db} (h : Nm WdS d) (hl : ∀ s ∈ d.sts, s.symbols.length ≤ 10000) (s : St) (hs : s ∈ d.sts) (hk : s.kind ≠ 1) : StW s := by
  have hso := h.sts s hs
  have hk2 := hso.kind.resolve_left hk
  obtain ⟨c, r, hc, -⟩ := hso.code hk2
  refine ⟨(hso.lab hk2).1.1, fun x hx => (hso.syms x hx).1, by rw [hc]; simp, hso.two, ?_⟩
  have := lineTo_size s (h.szs s hs hk) s.symbols.length (Nat.le_refl _)
  have hlen := hl s hs
  unfold lineF
  omega
theorem StW.split {s : St} (h : StW s) : splitF (lineF s) = s.label :: keyF s.kind :: s.symbols := split_line s h.lab.noBl (fun x hx => (h.syms x hx).noBl)

theorem pair_split (p : Pr) (h1 : NoBl p.1) (h2 : NoBl p.2) : splitF (pairLine p) = [⟨#[36, 100]⟩, p.1, p.2] := by
  have e : pairLine p = ⟨#[36, 100]⟩ ++ (⟨#[32]⟩ ++ p.1) ++ (⟨#[32]⟩ ++ p.2) := by
    unfold pairLine
    have e0 : (⟨#[36, 100, 32]⟩ : ByteArray) = ⟨#[36, 100]⟩ ++ ⟨#[32]⟩ := by decide +kernel
    rw [e0]
    simp only [ByteArray.append_assoc]
  rw [e, split_more _ _ h2, split_more _ _ h1, split_one]
  · rfl
  · intro i hi
    have h2 : i < 2 := hi
    match i, h2 with
    | 0, _ => decide +kernel
    | 1, _ => decide +kernel

theorem line_ok_hyp {s : St} (h : StW s) (hk : s.kind = 2 ∨ s.kind = 3) (lab : ByteArray) (last : Bool) : LineOk lab last (lineF s) := by
  have hs := h.split
  refine ⟨h.sz, by rw [hs]; have := h.pos; simp; omega, Or.inr ⟨by rw [hs]; exact isD_of _ _ h.lab, ?_⟩⟩
  rw [hs]
  simp only [key_of]
  rcases hk with hk | hk
  · left
    rw [hk, keyF_2, tl2]
    exact ⟨rfl, by have := h.two hk; simp [this]⟩
  · right
    rw [hk, keyF_3, tl2]
    exact ⟨by decide, Or.inl rfl⟩
theorem line_ok_own {s : St} (h : StW s) (hk : isA s.kind = true) (lab : ByteArray) (hl : s.label.toList = lab.toList) : LineOk lab true (lineF s) := by
  have hs := h.split
  refine ⟨h.sz, by rw [hs]; have := h.pos; simp; omega, Or.inr ⟨by rw [hs]; exact isD_of _ _ h.lab, Or.inr ?_⟩⟩
  rw [hs]
  simp only [key_of]
  have hk' : s.kind = 4 ∨ s.kind = 5 := by unfold isA at hk; simpa using hk
  rcases hk' with hk' | hk' <;> rw [hk']
  · rw [keyF_4, tl2]
    exact ⟨by decide, Or.inr ⟨by decide, Or.inl rfl, by show (s.label.toList == lab.toList) = true; rw [hl]; simp, by simp⟩⟩
  · rw [keyF_5, tl2]
    exact ⟨by decide, Or.inr ⟨by decide, Or.inr rfl, by show (s.label.toList == lab.toList) = true; rw [hl]; simp, by simp⟩⟩
theorem line_ok_pair (p : Pr) (h1 : NoBl p.1) (h2 : NoBl p.2) (hz : p.1.size ≤ 100000 ∧ p.2.size ≤ 100000) (lab : ByteArray) (last : Bool) : LineOk lab last (pairLine p) := by
  have hs := pair_split p h1 h2
  refine ⟨?_, by rw [hs]; simp, Or.inl (by rw [hs]; exact isD_pair _)⟩
  unfold pairLine
  simp only [ByteArray.size_append, d3_size, bl_size]
  omega

/-- The frame of an assertion, in a record of names. -/
structure FrOk (l : List St) (a : Nat) : Prop where
  ha : a < l.length
  isa : isA (l[a]'ha).kind = true
  own : StW (l[a]'ha)
  hyp : ∀ n ∈ hypsF l a, ∃ h : n < l.length, StW l[n] ∧ (l[n].kind = 2 ∨ l[n].kind = 3)
  prs : ∀ p ∈ pairsF l a, (NoBl p.1 ∧ NoBl p.2) ∧ p.1.size ≤ 100000 ∧ p.2.size ≤ 100000
theorem noBl_nil : NoBl ⟨#[]⟩ := fun i hi => absurd (show i < 0 from hi) (Nat.not_lt_zero i)
theorem gD_noBl (vs : List ByteArray) (i : Nat) (h : ∀ x ∈ vs, NoBl x) : NoBl (gD vs i) := by
  unfold gD
  rw [List.getD_eq_getElem?_getD]
  cases e : vs[i]? with
  | none => exact noBl_nil
  | some x => exact h x (List.mem_of_getElem? e)
theorem FrOk.of {d : Db} (h : Nm WdS d) (ok : RecOk d.sts) (a : Nat) (ha : a < d.sts.length) (hk : isA d.sts[a].kind = true) : FrOk d.sts a := by
  have hl : ∀ s ∈ d.sts, s.symbols.length ≤ 10000 := fun s hs => by obtain ⟨i, hi, rfl⟩ := List.getElem_of_mem hs; exact ok.syms i hi
  have hyp : ∀ n ∈ hypsF d.sts a, ∃ h : n < d.sts.length, StW d.sts[n] ∧ (d.sts[n].kind = 2 ∨ d.sts[n].kind = 3) := fun n hn => by
    have hnl := hyps_lt d.sts a n hn
    have hkn := kind_hyp d.sts a n hn hnl
    exact ⟨hnl, h.stw hl _ (List.getElem_mem hnl) (by omega), hkn⟩
  refine ⟨ha, hk, h.stw hl _ (List.getElem_mem ha) (by intro e; rw [e] at hk; revert hk; decide), hyp, fun p hp => ⟨?_, pairs_size d.sts a h.szs p hp⟩⟩
  have hv : ∀ x ∈ varsOfF d.sts (hypsF d.sts a), NoBl x := by
    intro x hx
    unfold varsOfF at hx
    obtain ⟨n, hn, he⟩ := List.mem_filterMap.1 hx
    obtain ⟨hnl, hst, -⟩ := hyp n hn
    unfold varOne at he
    rw [List.getElem?_eq_getElem hnl] at he
    simp only at he
    split at he
    · cases he
      unfold variableF
      split
      · next hc =>
        refine (hst.syms _ ?_).noBl
        rw [List.getD_eq_getElem?_getD, List.getElem?_eq_getElem (show 1 < d.sts[n].symbols.length by omega)]
        exact List.getElem_mem _
      · exact noBl_nil
    · cases he
  unfold pairsF prsF prTo at hp
  obtain ⟨i, -, hp⟩ := List.mem_flatMap.1 hp
  unfold prRow at hp
  obtain ⟨j, -, rfl⟩ := List.mem_map.1 hp
  exact ⟨gD_noBl _ _ hv, gD_noBl _ _ hv⟩

theorem get_of {L : List ByteArray} {k : Nat} {x : ByteArray} (h : L[k]? = some x) (hk : k < L.length) : L[k] = x := by
  rw [List.getElem?_eq_getElem hk] at h; exact Option.some.inj h
theorem lines_ok {l : List St} {a : Nat} (h : FrOk l a) (lab : ByteArray) (hl : (l[a]'h.ha).label.toList = lab.toList) (k : Nat) (hk : k < (linesF l a).length) : LineOk lab (decide (k + 1 = (linesF l a).length)) (linesF l a)[k] := by
  have hlen := lines_len l a
  by_cases h1 : k < (hypsF l a).length
  · obtain ⟨hq, hst, hkn⟩ := h.hyp _ (List.getElem_mem h1)
    rw [get_of (lines_hyp l a k h1 hq) hk]
    exact line_ok_hyp hst hkn _ _
  · by_cases h2 : k < (hypsF l a).length + (pairsF l a).length
    · obtain ⟨j, rfl⟩ : ∃ j, k = (hypsF l a).length + j := ⟨k - (hypsF l a).length, by omega⟩
      rw [get_of (lines_pair l a j (by omega)) hk]
      obtain ⟨⟨b1, b2⟩, b3⟩ := h.prs _ (List.getElem_mem (show j < (pairsF l a).length by omega))
      exact line_ok_pair _ b1 b2 b3 _ _
    · have e : k = (hypsF l a).length + (pairsF l a).length := by omega
      subst e
      rw [get_of (lines_last l a h.ha) hk, decide_eq_true (by omega)]
      exact line_ok_own h.own h.isa lab hl

def labN (l : List St) (n : Nat) : ByteArray := match l[n]? with | some s => s.label | none => ⟨#[]⟩
theorem step_hyp {s : St} (h : StW s) (hk : s.kind = 2 ∨ s.kind = 3) (f : Fm) : (stepF f (splitF (lineF s))).hyps = f.hyps ++ [s.label] ∧ (stepF f (splitF (lineF s))).goal = f.goal := by
  rw [h.split]
  have hd := isD_of s.label (keyF s.kind :: s.symbols) h.lab
  rcases hk with hk | hk
  · have h2 := h.two hk
    have k1 : isKey (s.label :: keyF s.kind :: s.symbols) 102 = true := by rw [key_of, hk, keyF_2, tl2]; rfl
    unfold stepF
    rw [if_neg (by rw [hd]; simp), if_pos ⟨k1, by simp [h2]⟩]
    exact ⟨rfl, rfl⟩
  · have k1 : isKey (s.label :: keyF s.kind :: s.symbols) 102 = false := by rw [key_of, hk, keyF_3, tl2]; decide
    have k2 : isKey (s.label :: keyF s.kind :: s.symbols) 101 = true := by rw [key_of, hk, keyF_3, tl2]; rfl
    unfold stepF
    rw [if_neg (by rw [hd]; simp), if_neg (by rw [k1]; simp), if_pos k2]
    exact ⟨rfl, rfl⟩
theorem step_pair (p : Pr) (h1 : NoBl p.1) (h2 : NoBl p.2) (f : Fm) : (stepF f (splitF (pairLine p))).hyps = f.hyps ∧ (stepF f (splitF (pairLine p))).goal = f.goal := by
  rw [pair_split p h1 h2]
  unfold stepF
  rw [if_pos (isD_pair _)]
  exact ⟨rfl, rfl⟩
theorem step_own {s : St} (h : StW s) (hk : isA s.kind = true) (f : Fm) : (stepF f (splitF (lineF s))).hyps = f.hyps ∧ (stepF f (splitF (lineF s))).goal = s.symbols := by
  rw [h.split]
  have hd := isD_of s.label (keyF s.kind :: s.symbols) h.lab
  have hk' : s.kind = 4 ∨ s.kind = 5 := by unfold isA at hk; simpa using hk
  have k1 : isKey (s.label :: keyF s.kind :: s.symbols) 102 = false := by
    rw [key_of]
    rcases hk' with e | e <;> rw [e]
    · rw [keyF_4, tl2]; decide
    · rw [keyF_5, tl2]; decide
  have k2 : isKey (s.label :: keyF s.kind :: s.symbols) 101 = false := by
    rw [key_of]
    rcases hk' with e | e <;> rw [e]
    · rw [keyF_4, tl2]; decide
    · rw [keyF_5, tl2]; decide
  unfold stepF
  rw [if_neg (by rw [hd]; simp), if_neg (by rw [k1]; simp), if_neg (by rw [k2]; simp)]
  exact ⟨rfl, rfl⟩
theorem fold_hyps (l : List St) (hs : List Nat) (h : ∀ n ∈ hs, ∃ h : n < l.length, StW l[n] ∧ (l[n].kind = 2 ∨ l[n].kind = 3)) (f : Fm) :
    ((hs.map (lineN l)).foldl (fun f x => stepF f (splitF x)) f).hyps = f.hyps ++ hs.map (labN l) ∧ ((hs.map (lineN l)).foldl (fun f x => stepF f (splitF x)) f).goal = f.goal := by
  induction hs generalizing f with
  | nil => simp
  | cons n hs ih =>
    obtain ⟨hn, hst, hk⟩ := h n (by simp)
    have e1 : lineN l n = lineF l[n] := by unfold lineN; rw [List.getElem?_eq_getElem hn]
    have e2 : labN l n = l[n].label := by unfold labN; rw [List.getElem?_eq_getElem hn]
    simp only [List.map_cons, List.foldl_cons]
    obtain ⟨i1, i2⟩ := ih (fun n hn => h n (List.mem_cons_of_mem _ hn)) (stepF f (splitF (lineN l n)))
    rw [i1, i2, e1, e2, (step_hyp hst hk f).1, (step_hyp hst hk f).2]
    simp
theorem fold_pairs (ps : List Pr) (h : ∀ p ∈ ps, NoBl p.1 ∧ NoBl p.2) (f : Fm) : ((ps.map pairLine).foldl (fun f x => stepF f (splitF x)) f).hyps = f.hyps ∧ ((ps.map pairLine).foldl (fun f x => stepF f (splitF x)) f).goal = f.goal := by
  induction ps generalizing f with
  | nil => simp
  | cons p ps ih =>
    simp only [List.map_cons, List.foldl_cons]
    obtain ⟨i1, i2⟩ := ih (fun n hn => h n (List.mem_cons_of_mem _ hn)) (stepF f (splitF (pairLine p)))
    have hp := h p (by simp)
    rw [i1, i2, (step_pair p hp.1 hp.2 f).1, (step_pair p hp.1 hp.2 f).2]
    exact ⟨rfl, rfl⟩
theorem form_is {l : List St} {a : Nat} (h : FrOk l a) : (formF (linesF l a)).hyps = (hypsF l a).map (labN l) ∧ (formF (linesF l a)).goal = (l[a]'h.ha).symbols := by
  unfold formF formTo
  rw [List.take_length]
  unfold linesF
  rw [List.foldl_append, List.foldl_append]
  have e1 : lineN l a = lineF (l[a]'h.ha) := by unfold lineN; rw [List.getElem?_eq_getElem h.ha]
  simp only [List.foldl_cons, List.foldl_nil, e1]
  obtain ⟨h1, h2⟩ := fold_hyps l (hypsF l a) h.hyp fm0
  obtain ⟨p1, p2⟩ := fold_pairs (pairsF l a) (fun p hp => (h.prs p hp).1) (((hypsF l a).map (lineN l)).foldl (fun f x => stepF f (splitF x)) fm0)
  obtain ⟨o1, o2⟩ := step_own h.own h.isa (((pairsF l a).map pairLine).foldl (fun f x => stepF f (splitF x)) (((hypsF l a).map (lineN l)).foldl (fun f x => stepF f (splitF x)) fm0))
  rw [o1, o2, p1, h1]
  exact ⟨by simp [fm0], rfl⟩

end Go.Proofs.YtcipkfhpcbddiaaGreat

/- Package metaproofkeep: taken, the texts. No walk. -/
namespace Go.Proofs.YtcipkfhpcbddiaaGreat
open Go.RowKit

def tkS : List ByteArray := [⟨#[]⟩, ⟨#[36, 99, 32]⟩, ⟨#[36, 118, 32]⟩, ⟨#[36, 99, 32]⟩, ⟨#[36, 118, 32]⟩]
def tkN (lab code : ByteArray) : List ByteArray := [lab, lab, lab, code, code]
/-- What is said of a text that ends in a name that is in use. -/
structure TkOk (T s x U : ByteArray) : Prop where
  size : U.size = T.size + 1 + s.size + x.size + 3
  inc : holdsF U = false
  rule : (rdM U).1.1 = 13
  line : lineAt U (rdM U).1.2 = lineAt T T.size + 1
  col : colAt U (rdM U).1.2 = s.size + 1
theorem app5 (T s x e : ByteArray) : T ++ ⟨#[10]⟩ ++ s ++ x ++ e = T ++ ⟨#[10]⟩ ++ (s ++ x ++ e) := by simp only [ByteArray.append_assoc]
theorem holds_wd (x : ByteArray) (hx : Wd x) : holdsF (x ++ endB) = false := by
  rw [holds_iff]
  rintro i hi ⟨h1, h2⟩
  rw [ByteArray.size_append, endB_size] at hi
  by_cases h : i < x.size
  · rw [byteAt_append_left _ _ _ h] at h1
    exact (hx.2 i h).2 h1
  · obtain ⟨j, rfl⟩ : ∃ j, i = x.size + j := ⟨i - x.size, by omega⟩
    rw [show x.size + j + 1 = x.size + (j + 1) by omega, byteAt_append_right _ _ _ (by rw [endB_size]; omega)] at h2
    have hj : j = 0 ∨ j = 1 := by omega
    rcases hj with rfl | rfl
    · revert h2; decide +kernel
    · revert h2; decide +kernel
theorem holds_key (x : ByteArray) (b : UInt8) (hb : b = 99 ∨ b = 118) (hx : Wd x) : holdsF (⟨#[36, b, 32]⟩ ++ x ++ endB) = false := by
  rw [ByteArray.append_assoc, holds_iff]
  have hw := (holds_iff _).1 (holds_wd x hx)
  rintro i hi ⟨h1, h2⟩
  have hs3 : (⟨#[36, b, 32]⟩ : ByteArray).size = 3 := rfl
  rw [ByteArray.size_append, hs3] at hi
  by_cases h : 3 ≤ i
  · obtain ⟨j, rfl⟩ : ∃ j, i = 3 + j := ⟨i - 3, by omega⟩
    have e1 := byteAt_append_right ⟨#[36, b, 32]⟩ (x ++ endB) j (by omega)
    have e2 := byteAt_append_right ⟨#[36, b, 32]⟩ (x ++ endB) (j + 1) (by omega)
    rw [hs3] at e1 e2
    rw [e1] at h1
    rw [show 3 + j + 1 = 3 + (j + 1) by omega, e2] at h2
    exact hw j (by omega) ⟨h1, h2⟩
  · have hi3 : i = 0 ∨ i = 1 ∨ i = 2 := by omega
    rcases hi3 with rfl | rfl | rfl
    · rw [byteAt_append_left _ _ _ (by rw [hs3]; omega)] at h2
      have : byteAt (⟨#[36, b, 32]⟩ : ByteArray) (0 + 1) = (b.toNat : Int) := rfl
      rw [this] at h2
      rcases hb with rfl | rfl <;> revert h2 <;> decide
    · rw [byteAt_append_left _ _ _ (by rw [hs3]; omega)] at h1
      have : byteAt (⟨#[36, b, 32]⟩ : ByteArray) 1 = (b.toNat : Int) := rfl
      rw [this] at h1
      rcases hb with rfl | rfl <;> revert h1 <;> decide
    · rw [byteAt_append_left _ _ _ (by rw [hs3]; omega)] at h1
      have : byteAt (⟨#[36, b, 32]⟩ : ByteArray) 2 = 32 := rfl
      rw [this] at h1
      omega
theorem tk_label (T x : ByteArray) (hT : Fine T) (hx : Wd x) (hl : isLabelF x = true) (ht : isTakenF (rdM T).2 x = true) : TkOk T ⟨#[]⟩ x (T ++ ⟨#[10]⟩ ++ ⟨#[]⟩ ++ x ++ endB) := by
  have e : T ++ ⟨#[10]⟩ ++ ⟨#[]⟩ ++ x ++ endB = T ++ ⟨#[10]⟩ ++ (x ++ endB) := by
    rw [app5]
    congr 1
  rw [e]
  have hr := taken_label T x hT hx hl ht
  have hL := line_U T (x ++ endB)
  refine ⟨?_, holds_more T _ hT.inc (holds_wd x hx), by rw [hr], by rw [hr]; exact hL.1, by rw [hr, hL.2]; rfl⟩
  rw [ByteArray.size_append, ByteArray.size_append, ByteArray.size_append, lf_size, endB_size]
  show _ = _ + 0 + _ + _
  omega
theorem tk_key (T x : ByteArray) (b : UInt8) (hb : b = 99 ∨ b = 118) (hT : Fine T) (hx : Wd x) (ht : hasF (rdM T).2.labels x = true ∨ hasF (rdM T).2.constants x = true) : TkOk T ⟨#[36, b, 32]⟩ x (T ++ ⟨#[10]⟩ ++ ⟨#[36, b, 32]⟩ ++ x ++ endB) := by
  rw [app5]
  have hr := taken_sym T x b hb hT hx ht
  have hL := line_U T (⟨#[36, b, 32]⟩ ++ x ++ endB)
  have hs3 : (⟨#[36, b, 32]⟩ : ByteArray).size = 3 := rfl
  have hcs : (⟨#[36, b, 32]⟩ ++ x ++ endB).size = 3 + x.size + 3 := by rw [ByteArray.size_append, ByteArray.size_append, endB_size, hs3]
  have hby : ∀ i, i < 3 → byteAt (T ++ ⟨#[10]⟩ ++ (⟨#[36, b, 32]⟩ ++ x ++ endB)) (T.size + 1 + i) = byteAt ⟨#[36, b, 32]⟩ i := fun i hi => by
    rw [pre_right T _ i (by omega), byteAt_append_left _ _ i (by rw [ByteArray.size_append, hs3]; omega), byteAt_append_left _ _ i (by rw [hs3]; omega)]
  have hne : ∀ i, i < 3 → (byteAt (T ++ ⟨#[10]⟩ ++ (⟨#[36, b, 32]⟩ ++ x ++ endB)) (T.size + 1 + i) == 10) = false := fun i hi => by
    rw [hby i hi]
    have : i = 0 ∨ i = 1 ∨ i = 2 := by omega
    rcases this with rfl | rfl | rfl
    · rfl
    · rcases hb with rfl | rfl <;> rfl
    · rfl
  have n0 := hne 0 (by omega)
  have n1 := hne 1 (by omega)
  have n2 := hne 2 (by omega)
  rw [Nat.add_zero] at n0
  refine ⟨?_, holds_more T _ hT.inc (holds_key x b hb hx), by rw [hr], ?_, ?_⟩
  · rw [ByteArray.size_append, ByteArray.size_append, lf_size, hcs, hs3]; omega
  · rw [hr]
    show lineAt _ (T.size + 1 + 1 + 1 + 1) = _
    rw [lineAt, if_neg (by rw [show T.size + 1 + 1 + 1 = T.size + 1 + 2 by omega, n2]; simp), lineAt, if_neg (by rw [n1]; simp), lineAt, if_neg (by rw [n0]; simp), hL.1]
  · rw [hr]
    show colAt _ (T.size + 1 + 1 + 1 + 1) = _
    rw [colAt, if_neg (by rw [show T.size + 1 + 1 + 1 = T.size + 1 + 2 by omega, n2]; simp), colAt, if_neg (by rw [n1]; simp), colAt, if_neg (by rw [n0]; simp), hL.2, hs3]
    rfl

/-- The texts of all five rounds. -/
theorem tk_all (T lab code : ByteArray) (hT : Fine T) (h1 : Wd lab) (h2 : isLabelF lab = true) (h3 : hasF (rdM T).2.labels lab = true) (h4 : Wd code) (h5 : hasF (rdM T).2.constants code = true) (k : Nat) (hk : k < 5) (s x : ByteArray) (hs : tkS[k]? = some s) (hx : (tkN lab code)[k]? = some x) :
    TkOk T s x (T ++ ⟨#[10]⟩ ++ s ++ x ++ endB) ∧ x.size ≤ lab.size + code.size ∧ s.size ≤ 3 := by
  have ht : isTakenF (rdM T).2 lab = true := by unfold isTakenF; rw [h3]; rfl
  have hk5 : k = 0 ∨ k = 1 ∨ k = 2 ∨ k = 3 ∨ k = 4 := by omega
  rcases hk5 with rfl | rfl | rfl | rfl | rfl
  · cases hs; cases hx; exact ⟨tk_label T lab hT h1 h2 ht, by omega, by decide⟩
  · cases hs; cases hx; exact ⟨tk_key T lab 99 (Or.inl rfl) hT h1 (Or.inl h3), by omega, by decide⟩
  · cases hs; cases hx; exact ⟨tk_key T lab 118 (Or.inr rfl) hT h1 (Or.inl h3), by omega, by decide⟩
  · cases hs; cases hx; exact ⟨tk_key T code 99 (Or.inl rfl) hT h4 (Or.inr h5), by omega, by decide⟩
  · cases hs; cases hx; exact ⟨tk_key T code 118 (Or.inr rfl) hT h4 (Or.inr h5), by omega, by decide⟩

/-- All that taken looks at, of one row. -/
structure RowT (T lab : ByteArray) (n : Nat) (c : ByteArray) (r : List ByteArray) : Prop where
  find : findAF (rdM T).2.sts lab = some n
  fr : FrOk (rdM T).2.sts n
  own : ((rdM T).2.sts[n]'fr.ha).label.toList = lab.toList
  syms : ((rdM T).2.sts[n]'fr.ha).symbols = c :: r
  hyp : ∀ x ∈ (hypsF (rdM T).2.sts n).map (labN (rdM T).2.sts), findAF (rdM T).2.sts x = none
  tx : ∀ (k : Nat) s x, k < 5 → tkS[k]? = some s → (tkN lab c)[k]? = some x → TkOk T s x (T ++ ⟨#[10]⟩ ++ s ++ x ++ endB) ∧ x.size ≤ 2048 ∧ s.size ≤ 3
theorem rowT_of (T : ByteArray) (hT : Fine T) (r : Rw) (hr : r ∈ rowsM T) : ∃ n c rr, RowT T r.label n c rr := by
  obtain ⟨n, s, hf, hs, ha, hl⟩ := row_asserts _ r hr
  have hnm := rdM_nmS T hT.size
  have ok := (rdM_rec T hT.size hT.inc).ok
  obtain ⟨hn, rfl⟩ := List.getElem?_eq_some_iff.1 hs
  have hso := hnm.sts _ (List.getElem_mem hn)
  have hk : 2 ≤ (rdM T).2.sts[n].kind ∧ (rdM T).2.sts[n].kind ≤ 5 := hso.kind.resolve_left (by intro e; rw [e] at ha; revert ha; decide)
  obtain ⟨c, rr, hc, hcc⟩ := hso.code hk
  obtain ⟨l1, l2, l3⟩ := hso.lab hk
  rw [hl] at l1 l2 l3
  have hwc : WdS c := hso.syms c (by rw [hc]; simp)
  have fr := FrOk.of hnm ok n hn ha
  refine ⟨n, c, rr, hf, fr, by rw [hl], hc, ?_, ?_⟩
  · intro x hx
    obtain ⟨m, hm, rfl⟩ := List.mem_map.1 hx
    obtain ⟨t, ht, hkt⟩ := hyps_kind _ _ _ hm
    have e : labN (rdM T).2.sts m = t.label := by unfold labN; rw [ht]
    rw [e]
    exact find_none hnm.diff m t ht hkt
  · intro k s x hk5 hs5 hx5
    obtain ⟨a1, a2, a3⟩ := tk_all T r.label c hT l1.1 l2 l3 hwc.1 hcc k hk5 s x hs5 hx5
    exact ⟨a1, by have := l1.2; have := hwc.2; omega, a3⟩

end Go.Proofs.YtcipkfhpcbddiaaGreat
