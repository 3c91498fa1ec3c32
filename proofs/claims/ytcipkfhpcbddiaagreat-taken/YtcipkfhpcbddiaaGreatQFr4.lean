import Derived.Test.YtcipkfhpcbddiaaGreatQFr2
/- Package frames: pairsOf. -/
namespace Go.Proofs.YtcipkfhpcbddiaaGreat
open Go.RowKit

abbrev Pr := ByteArray × ByteArray
def prV (p : Pr) : List Value := [.string p.1, .string p.2]
def prsV (l : List Pr) : List Value := l.flatMap prV
def rowPr (l : List Pr) : Row := ⟨128, 2, l.length, prsV l⟩
theorem rowPr_snoc (l : List Pr) (x : Pr) : (⟨(rowPr l).e, (rowPr l).size, (rowPr l).n + 1, (rowPr l).xs ++ [.string x.1, .string x.2]⟩ : Row) = rowPr (l ++ [x]) := by
  simp [rowPr, prsV, prV]
theorem infoPr : (Tryz.prog.info? 128).map (fun i => (i.zero, i.size, i.bytes)) = some (some (.agg #[.string ⟨#[]⟩, .string ⟨#[]⟩]), 2, 32) := by kernel_rfl

def gD (vs : List ByteArray) (i : Nat) : ByteArray := vs.getD i ⟨#[]⟩
/-- The pairs of variable i with those behind it, up to k. -/
def prRow (vs : List ByteArray) (ms : List Bool) (i k : Nat) : List Pr := ((List.range k).filter (fun j => decide (i < j) && apartF vs.length ms i j)).map (fun j => (gD vs i, gD vs j))
def prTo (vs : List ByteArray) (ms : List Bool) (i : Nat) : List Pr := (List.range i).flatMap (fun i => prRow vs ms i vs.length)
def prsF (vs : List ByteArray) (ms : List Bool) : List Pr := prTo vs ms vs.length
theorem prRow_zero (vs : List ByteArray) (ms : List Bool) (i : Nat) : prRow vs ms i (i + 1) = [] := by
  unfold prRow
  rw [List.map_eq_nil_iff, List.filter_eq_nil_iff]
  intro j hj
  have := List.mem_range.1 hj
  simp; omega
theorem prRow_yes (vs : List ByteArray) (ms : List Bool) (i k : Nat) (hi : i < k) (h : apartF vs.length ms i k = true) : prRow vs ms i (k + 1) = prRow vs ms i k ++ [(gD vs i, gD vs k)] := by
  unfold prRow
  rw [List.range_succ, List.filter_append, List.map_append]
  simp [hi, h]
theorem prRow_no (vs : List ByteArray) (ms : List Bool) (i k : Nat) (h : apartF vs.length ms i k = false) : prRow vs ms i (k + 1) = prRow vs ms i k := by
  unfold prRow
  rw [List.range_succ, List.filter_append, List.map_append]
  simp [h]
theorem prTo_next (vs : List ByteArray) (ms : List Bool) (i : Nat) : prTo vs ms (i + 1) = prTo vs ms i ++ prRow vs ms i vs.length := by
  unfold prTo; rw [List.range_succ, List.flatMap_append]; simp
theorem prRow_len (vs : List ByteArray) (ms : List Bool) (i k : Nat) : (prRow vs ms i k).length ≤ k := by
  unfold prRow
  rw [List.length_map]
  have := List.length_filter_le (fun j => decide (i < j) && apartF vs.length ms i j) (List.range k)
  simpa using this
theorem prTo_len (vs : List ByteArray) (ms : List Bool) (i : Nat) : (prTo vs ms i).length ≤ i * vs.length := by
  induction i with
  | zero => simp [prTo]
  | succ i ih =>
    rw [prTo_next, List.length_append, Nat.add_mul]
    have := prRow_len vs ms i vs.length
    omega
/-- The pairs on the way. -/
def prAt (vs : List ByteArray) (ms : List Bool) (i j : Nat) : List Pr := prTo vs ms i ++ prRow vs ms i j
theorem prAt_len (vs : List ByteArray) (ms : List Bool) (i j : Nat) (hi : i ≤ 10000) (hv : vs.length ≤ 10000) (hj : j ≤ 10000) : (prAt vs ms i j).length ≤ 100010000 := by
  unfold prAt
  rw [List.length_append]
  have h1 := prTo_len vs ms i
  have h2 := prRow_len vs ms i j
  have h3 : i * vs.length ≤ 10000 * 10000 := Nat.mul_le_mul hi hv
  omega
theorem prs_len (vs : List ByteArray) (ms : List Bool) (h : vs.length ≤ 10000) : (prsF vs ms).length ≤ 100000000 := by
  have h1 := prTo_len vs ms vs.length
  have h2 : vs.length * vs.length ≤ 10000 * 10000 := Nat.mul_le_mul h h
  unfold prsF
  omega

set_option maxHeartbeats 2000000 in
set_option maxRecDepth 100000 in
theorem pairsOf_any (b o a : Nat) (l : List St) (H : Nat → Hd) (hw : Hd) (vs : List ByteArray) (w : World) (h : RecAt w b o l H) (ok : RecOk l) (hO : Owns w hw (rowS vs)) (hvl : vs.length ≤ 10000) :
    Calls Tryz.prog 72 #[.pointer (some ⟨b, o, none⟩), .int .i64 a, .slice hw.ao vs.length hw.cap] w fun e w' => ∃ hd : Hd, e = .returned (.slice hd.ao (prsF vs (marksF l a vs)).length hd.cap) ∧ Owns w' hd (rowPr (prsF vs (marksF l a vs))) ∧ (∀ x, hd.blk = some x → w.heap.size ≤ x) ∧ Kept [] w w' := by
  obtain ⟨i0, hi, hz0, hz1, hz2⟩ := info_parts infoPr
  have HAT := (show Hid _ from at_any b o a l H hw vs w h ok hO hvl)
  have hmlen : (marksF l a vs).length = vs.length * vs.length := marksTo_len l a vs _
  generalize marksF l a vs = ms at *
  obtain ⟨AO, HAO⟩ : ∃ AO, Hid (hw.ao = AO) := ⟨_, rfl⟩
  rw [HAO.out] at HAT ⊢
  go_enter Tryz.func72, Tryz.ntmps72
  go_wp2_with fail
  refine Calls.mono HAT.out ?_
  rintro e w1 ⟨tb, hv, hm, rfl, hA1, htb, hvb, k1⟩
  go_wp2
  go_loopg [8, 9] vs.length (fun gk sv i wr => ∃ (k : Nat) (hd : Hd), k ≤ vs.length ∧ gk = vs.length - k ∧ i = .int .i64 k ∧ sv = .slice hd.ao (prTo vs ms k).length hd.cap ∧ Owns wr hd (rowPr (prTo vs ms k)) ∧ (∀ x, hd.blk = some x → w1.heap.size ≤ x) ∧ Kept [] w1 wr)
  case atStart => exact ⟨0, ⟨none, 0⟩, by omega, by omega, rfl, rfl, World.ownsRow_nil _ _ _ _, by intro x hx; simp [Hd.blk] at hx, Kept.refl _ _⟩
  case round =>
    obtain ⟨k, hd, hk, hg, rfl, rfl, hO1, hN, hK⟩ := hrel
    by_cases hlt : k < vs.length
    · have HNX := (show Hid _ from prTo_next vs ms k)
      have HZ := (show Hid _ from prRow_zero vs ms k)
      have HB : Hid (prAt vs ms k (k + 1) = prTo vs ms k) := by show prTo vs ms k ++ _ = _; rw [HZ.out, List.append_nil]
      have HE : Hid (prAt vs ms k vs.length = prTo vs ms (k + 1)) := HNX.out.symm
      go_wp2_with fail
      go_loopg [8, 10] (vs.length - (k + 1)) (fun gk2 sv2 i2 wr2 => ∃ (j : Nat) (hd2 : Hd), k < j ∧ j ≤ vs.length ∧ gk2 = vs.length - j ∧ i2 = .int .i64 j ∧ sv2 = .slice hd2.ao (prAt vs ms k j).length hd2.cap ∧ Owns wr2 hd2 (rowPr (prAt vs ms k j)) ∧ (∀ x, hd2.blk = some x → w1.heap.size ≤ x) ∧ Kept [] w1 wr2)
      case atStart => exact ⟨k + 1, hd, by omega, by omega, rfl, by go_num, by rw [HB.out], by rw [HB.out]; exact hO1, hN, hK⟩
      case round =>
        obtain ⟨j, hd2, hkj, hj, hg2, rfl, rfl, hO2, hN2, hK2⟩ := hrel
        clear hO1 hN hK
        have hPl := prAt_len vs ms k j (by omega) hvl (by omega)
        by_cases hlj : j < vs.length
        · have hA2 := hA1.still hK2
          have hOv : Owns wr hw (rowS vs) := hO.moved (fun x hx => (k1.trans hK2).block x (hO.lt hx) (by simp))
          rcases hOv.ways with ⟨_, h0, _⟩ | ⟨gv, curv, ev, ev2, ev3, -⟩
          · have : vs.length = 0 := h0
            omega
          have cv1 := hOv.cell ev k (.string vs[k]) (by simp [rowS, strs, hlt])
          have cv2 := hOv.cell ev j (.string vs[j]) (by simp [rowS, strs, hlj])
          have hgv0 := hO.lt (k := gv) (by unfold Hd.blk; rw [ev]; rfl)
          have hAO : AO = some ⟨gv, 0, none⟩ := by rw [← HAO.out]; exact ev
          subst hAO
          have hgv := lt_of_get ev2
          have hgk : gD vs k = vs[k] := getD_at vs k hlt
          have hgj : gD vs j = vs[j] := getD_at vs j hlj
          have HY : Hid (apartF vs.length ms k j = true → prAt vs ms k (j + 1) = prAt vs ms k j ++ [(gD vs k, gD vs j)]) := fun hp => by unfold prAt; rw [prRow_yes vs ms k j hkj hp, List.append_assoc]
          have HN0 : Hid (apartF vs.length ms k j = false → prAt vs ms k (j + 1) = prAt vs ms k j) := fun hp => by unfold prAt; rw [prRow_no vs ms k j hp]
          rw [hgk, hgj] at HY
          clear hgk hgj ev2 hOv
          have hki : (k : Int) < vs.length := by omega
          have hji : (j : Int) < vs.length := by omega
          have hk0 : (0 : Int) ≤ k := by omega
          have hj0 : (0 : Int) ≤ j := by omega
          generalize vs[k] = x at *
          generalize vs[j] = y at *
          cases hap : apartF vs.length ms k j
          · have HT := (show Hid _ from HN0.out hap)
            clear HY HN0
            go_wp2_with (go_at_call 90; refine (apart_any tb vs ms hv hm k j _ (by exact hA2) hmlen hvl hlt hlj).mono ?_; rintro e w9 ⟨rfl, hw9⟩; rw [hw9, hap])
            go_roundg (vs.length - (j + 1))
            case measure => omega
            case rel => exact ⟨j + 1, hd2, by omega, by omega, rfl, by go_num, by rw [HT.out], by rw [HT.out]; exact hO2, hN2, hK2⟩
          · have HT := (show Hid _ from HY.out hap)
            clear HY HN0
            generalize prAt vs ms k j = PL at *
            have s3 : Hid (∀ u ∈ ([.string x, .string y] : List Value), u.oneCell' = true) := by
              intro u hu; simp at hu; rcases hu with rfl | rfl <;> rfl
            have s4 : Hid ((rowPr PL).n + 1 ≤ maxLen) := by show _ ≤ _; simp only [rowPr]; unfold maxLen; omega
            have s5 : Hid (((rowPr PL).n + 1) * 32 ≤ 140737488355328) := by show _ ≤ _; simp only [rowPr]; omega
            have K4 : Hid (Kept [] wr (wr.alloc (.cells #[.string x, .string y] 128)).drew) := ((Kept.refl [] wr).alloc _).drew
            have hD : Hid (Owns (wr.alloc (.cells #[.string x, .string y] 128)).drew hd2 (rowPr PL)) := hO2.moved (fun z hz => K4.out.block z (hO2.lt hz) (by simp))
            have s2 : Hid (∀ j u, ([.string x, .string y] : List Value)[j]? = some u → (wr.alloc (.cells #[.string x, .string y] 128)).drew.cell? ((⟨wr.heap.size, 0, none⟩ : Addr).add j) = some u) := by
              intro j u hj
              rw [addr_add]
              have hk : (wr.alloc (.cells #[.string x, .string y] 128)).drew.heap[wr.heap.size]? = some (.cells #[.string x, .string y] 128 (0, 0)) := heap_alloc_new _ _
              rw [cell_of hk]; simpa using hj
            have HS : Hid (∀ w5, (wr.alloc (.cells #[.string x, .string y] 128)).drew.grownBy w5 hd2.blk → w5.cell? ⟨gv, k, none⟩ = some (.string x) ∧ w5.cell? ⟨gv, j, none⟩ = some (.string y)) := by
              intro w5 hgr
              have e : w5.heap[gv]? = wr.heap[gv]? := (hgr.block gv (Nat.lt_of_lt_of_le hgv K4.out.size) (fun e => by have := hN2 gv e.symm; have := k1.size; omega)).trans (K4.out.block gv hgv (by simp))
              exact ⟨by rw [World.cell?_of_block e]; exact cv1, by rw [World.cell?_of_block e]; exact cv2⟩
            go_upto_region 10 with (go_at_call 90; refine (apart_any tb vs ms hv hm k j _ (by exact hA2) hmlen hvl hlt hlj).mono ?_; rintro e w9 ⟨rfl, hw9⟩; rw [hw9, hap])
            go_region_held3 (fun w' => w'.cell? ⟨gv, k, none⟩ = some (.string x) ∧ w'.cell? ⟨gv, j, none⟩ = some (.string y)) (go_keep) ((refine step_append_row (by rfl) (.tmp 33) (.tmp 43) 122 (by rfl) i0 (.agg #[.string ⟨#[]⟩, .string ⟨#[]⟩]) 32 hd2 (rowPr PL) Tryz.underlying122 hi hz0 hz1 hz2 rfl Nat.two_pos (by simp [Act.eval] <;> rfl) hD.out ⟨wr.heap.size, 0, none⟩ 1 1 [.string x, .string y] (by simp [Act.eval]) rfl s2.out s3.out Nat.one_pos s4.out s5.out ?_; intro g5 cap5 w5 hw5 hgr5 hfresh5; obtain ⟨q1, q2⟩ := HS.out w5 hgr5))
            rw [rowPr_snoc PL (x, y), ← HT.out] at hw5
            have hK5 := (hK2.trans K4.out).grown hgr5 hN2
            have hg5 : w1.heap.size ≤ g5 := by
              rcases hfresh5 with e | e
              · exact hN2 g5 e
              · have := (hK2.trans K4.out).size; simp at e this; omega
            have hEl : Hid ((rowPr PL).n + 1 = (prAt vs ms k (j + 1)).length) := by show _ = _; rw [HT.out]; simp [rowPr]
            rw [hEl.out]
            clear hgr5 hfresh5 q1 q2
            go_wp2
            go_roundg (vs.length - (j + 1))
            case measure => omega
            case rel => exact ⟨j + 1, ⟨some ⟨g5, 0, none⟩, cap5⟩, by omega, by omega, rfl, by go_num, rfl, hw5, by intro x hx; simp [Hd.blk] at hx; omega, hK5⟩
        · have e : j = vs.length := by omega
          subst e
          rw [HE.out] at hO2 ⊢
          go_wp2
          go_roundg (vs.length - (k + 1))
          case measure => omega
          case rel => exact ⟨k + 1, hd2, by omega, rfl, by go_num, rfl, hO2, hN2, hK2⟩
    · have e : k = vs.length := by omega
      subst e
      go_wp2
      go_ret
      exact ⟨hd, rfl, hO1, fun x hx => by have := hN x hx; have := k1.size; omega, k1.trans hK⟩

end Go.Proofs.YtcipkfhpcbddiaaGreat
