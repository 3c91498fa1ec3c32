/- Our texts: Pl6, Pl7, Pl8. -/
import Derived.Test.YtkancbaldeeijaaGreatG22
/- Package player: variablesWithin, keepsApart. -/
namespace Go.Proofs.YtkancbaldeeijaaGreat
open Go.RowKit

def withK (vs : List ByteArray) (bs : List (List ByteArray)) (k n : Nat) : List Nat := if n < k then withinF vs (bs.getD n []) else []
theorem GridIs.congr {w : World} {g N : Nat} {F F' : Nat → List Nat} {K : Nat → Hd} (h : GridIs w g N F K) (e : ∀ n, n < N → F n = F' n) : GridIs w g N F' K := by
  obtain ⟨arr, h1, h2, h3⟩ := h.arr
  exact ⟨⟨arr, h1, h2, fun n hn => by rw [← e n hn]; exact h3 n hn⟩, fun n hn => by rw [← e n hn]; exact h.own n hn, h.off⟩

set_option maxHeartbeats 1600000 in
set_option maxRecDepth 100000 in
theorem within_any (b rb ro g n tb : Nat) (vs : List ByteArray) (ms : List Bool) (hv hm hl : Hd) (be : List Ex) (w : World) (hp : PCtx w b rb ro g n tb) (h : ApIs w tb vs ms hv hm) (hvl : vs.length ≤ 10000)
    (ho : Owns w hl (rowE be)) (hbl : be.length ≤ 10000) (hex : ∀ e ∈ be, View w e.hd e.xs ∧ e.xs.length ≤ 10000) :
    Calls Tryz.prog 128 #[.pointer (some ⟨b, 0, none⟩), .slice hl.ao be.length hl.cap] w fun e w' => ∃ (g' : Nat) (K : Nat → Hd), e = .returned (.slice (some ⟨g', 0, none⟩) be.length be.length) ∧ GridIs w' g' be.length (withK vs (be.map Ex.xs) be.length) K ∧ Kept [] w w' := by
  obtain ⟨i0, hi, hz0, hz1, hz2⟩ := info_parts infoL
  have m1 := fun w => run_make_row (P := Tryz.prog) w 97 35 i0 _ Tryz.underlying97 hi hz0 be.length 1 hz1 (by rw [hz2]; omega) (by omega)
  obtain ⟨mc, hmc⟩ : ∃ mc, mc = madeCells (Value.slice none 0 0).cells (be.length * 1) := ⟨_, rfl⟩
  rw [← hmc] at m1
  have A0 : Hid (GridIs (w.alloc (.cells mc 35)) w.heap.size be.length (withK vs (be.map Ex.xs) 0) noHd) := by
    refine ⟨⟨mc, heap_alloc_new _ _, by rw [hmc, size_madeCells]; omega, ?_⟩, ?_, fun n _ e => by simp [noHd, Hd.blk] at e⟩
    · intro n hn
      have e : withK vs (be.map Ex.xs) 0 n = [] := by unfold withK; rw [if_neg (by omega)]
      rw [e, hmc]
      exact made_at _ _ _ (by omega)
    · intro n hn
      have e : withK vs (be.map Ex.xs) 0 n = [] := by unfold withK; rw [if_neg (by omega)]
      rw [e]; exact World.ownsRow_nil _ _ _ _
  clear hmc
  go_enter Tryz.func128, Tryz.ntmps128
  go_wp2
  go_loopg [6] be.length (fun gk i wr => ∃ (k : Nat) (K : Nat → Hd), k ≤ be.length ∧ gk = be.length - k ∧ i = .int .i64 k ∧ GridIs wr w.heap.size be.length (withK vs (be.map Ex.xs) k) K ∧ Kept [] w wr)
  case atStart => exact ⟨0, noHd, by omega, by omega, rfl, A0.out, (Kept.refl _ _).alloc _⟩
  case round =>
    obtain ⟨k, K, hk, hg, rfl, hA, hK⟩ := hrel
    clear A0 m1
    by_cases hlt : k < be.length
    · rcases ho.ways with ⟨_, h0, _⟩ | ⟨gb, curb, eb, -, eb3, -⟩
      · have : be.length = 0 := h0
        omega
      have hob : Owns wr hl (rowE be) := ho.moved (fun x hx => hK.block x (ho.lt hx) (by simp))
      have cb := hob.cell eb k (exV be[k]) (exsV_at be k hlt)
      have hcp : be.length ≤ hl.cap := eb3
      obtain ⟨hvk, hxk⟩ := hex be[k] (List.getElem_mem hlt)
      have PO := lpositions_any b rb ro g n tb vs ms hv hm be[k].hd be[k].xs wr (hp.still hK) (h.still hK) (by omega) (hvk.still hK) (by omega)
      have HNX : Hid (∀ n, n < be.length → updF (withK vs (be.map Ex.xs) k) k (withinF vs be[k].xs) n = withK vs (be.map Ex.xs) (k + 1) n) := by
        intro n hn
        unfold updF withK
        by_cases e : n = k
        · subst e; simp [hlt]
        · rw [if_neg e]
          by_cases e2 : n < k
          · rw [if_pos e2, if_pos (by omega)]
          · rw [if_neg e2, if_neg (by omega)]
      unfold exV at cb
      obtain ⟨ao, cap⟩ := hl
      simp only at eb
      subst eb
      have hgw := hA.lt
      clear hob
      generalize be[k] = ex at *
      go_wp2_with fail
      refine PO.mono ?_
      rintro e w2 ⟨hd, rfl, o2, n2, k2⟩
      have hA2 := hA.still k2
      have c2 := hA2.cell k hlt
      have f2 := hA2.free
      have ST := (show Hid _ from (hA2.store (k := k) (withinF vs ex.xs) hd o2 (fun e => by have := n2 _ e; omega)).congr HNX.out)
      have hKw := hK.size
      have hK2 := (hK.trans k2)
      have HK3 : Hid (∀ v, Kept [] w (w2.setCell ⟨w.heap.size, k, none⟩ v)) := fun v => hK2.setCell (Or.inr (Nat.le_refl _)) v
      go_wp2
      go_roundg (be.length - (k + 1))
      case measure => omega
      case rel => exact ⟨k + 1, _, by omega, rfl, by go_num, ST.out, HK3.out _⟩
    · have e : k = be.length := by omega
      subst e
      go_wp2
      go_ret
      exact ⟨_, K, rfl, hA, hK⟩

/-- Whether a substitution keeps the pairs apart. -/
def keepP (l : List St) (a : Nat) (S : List ByteArray × List (List ByteArray)) (vs : List ByteArray) (ms : List Bool) (i j : Nat) : Bool :=
  !(apartF S.1.length (marksF l a S.1) i j) || areF vs.length ms (withinF vs (S.2.getD i [])) (withinF vs (S.2.getD j []))
def keepF (l : List St) (a : Nat) (S : List ByteArray × List (List ByteArray)) (vs : List ByteArray) (ms : List Bool) : Bool :=
  decide (∀ i, i < S.1.length → ∀ j, j < S.1.length → i < j → keepP l a S vs ms i j = true)

set_option maxHeartbeats 1600000 in
set_option maxRecDepth 100000 in
theorem keepsApart_any (b rb ro g n tb a sb : Nat) (l : List St) (HR : Nat → Hd) (vs : List ByteArray) (ms : List Bool) (hv hm : Hd) (us : List ByteArray) (be : List Ex) (H : Nat → Hd) (w : World) (hp : PCtx w b rb ro g n tb) (h : ApIs w tb vs ms hv hm) (hml : ms.length = vs.length * vs.length) (hvl : vs.length ≤ 10000)
    (hr : RecAt w rb ro l HR) (ok : RecOk l) (hs : SubIs w sb us be H) (hul : us.length ≤ 10000) (hxl : ∀ e ∈ be, e.xs.length ≤ 10000) :
    Calls Tryz.prog 124 #[.pointer (some ⟨b, 0, none⟩), .int .i64 a, .pointer (some ⟨sb, 0, none⟩)] w fun e w' => e = .returned (.bool (keepF l a (us, be.map Ex.xs) vs ms)) ∧ Kept [] w w' := by
  obtain ⟨p0, p1, p2⟩ := hp.cells
  obtain ⟨s0, s1⟩ := hs.cells
  have HLE : Hid (be.length = us.length) := hs.len
  have hbl : be.length ≤ 10000 := by rw [HLE.out]; exact hul
  obtain ⟨R, HR'⟩ : ∃ R, Hid (R = keepF l a (us, be.map Ex.xs) vs ms) := ⟨_, rfl⟩
  rw [← HR'.out]
  have HO0 : ∀ w1, Kept [] w w1 → Owns w1 (H 0) (rowS us) := fun w1 k1 => (hs.still k1).bag.own 0
  have HO1 : ∀ w1, Kept [] w w1 → Owns w1 (H 1) (rowE be) := fun w1 k1 => (hs.still k1).bag.own 1
  have HAT := (show Hid _ from fun w1 (k1 : Kept [] w w1) => at_any rb ro a l HR (H 0) us w1 (hr.still k1) ok (HO0 w1 k1) hul)
  have HC : Hid (∀ w', Kept [] w.drew w' → w'.cell? ⟨b, 0, none⟩ = some (.pointer (some ⟨rb, ro, none⟩)) ∧ w'.cell? ⟨sb, 0, none⟩ = some (.slice (H 0).ao us.length (H 0).cap)) := by
    intro w' k
    exact ⟨(hp.still ((Kept.refl [] w).drew.trans k)).cells.1, (hs.still ((Kept.refl [] w).drew.trans k)).cells.1⟩
  have hsb := hs.bag.lt
  go_enter Tryz.func124, Tryz.ntmps124
  go_upto_region 1 with fail
  go_region_held3 (fun w' => w'.cell? ⟨b, 0, none⟩ = some (.pointer (some ⟨rb, ro, none⟩)) ∧ w'.cell? ⟨sb, 0, none⟩ = some (.slice (H 0).ao us.length (H 0).cap)) (go_keep) (first | (go_at_call 69; refine (HAT.out _ (by exact (Kept.refl [] _).drew)).mono ?_; rintro e w1 ⟨tb2, hv2, hm2, rfl, A2, -, -, k1⟩; obtain ⟨x0, x1⟩ := HC.out w1 k1))
  have K1 := (Kept.refl [] w).drew.trans k1
  have hs1 := hs.still K1
  obtain ⟨y0, y1⟩ := hs1.cells
  have WI := within_any b rb ro g n tb vs ms hv hm (H 1) be w1 (hp.still K1) (h.still K1) hvl (HO1 w1 K1) hbl (fun e he => ⟨(hs1.exs e he).view, hxl e he⟩)
  have hml2 := marksTo_len l a us l.length
  go_wp2_with fail
  refine WI.mono ?_
  rintro e w2 ⟨g2, K, rfl, G2, k2⟩
  have A2' := A2.still k2
  have K2 := K1.trans k2
  have hp2 := hp.still K2
  have h2 := h.still K2
  have HT : Hid (R = true ↔ ∀ i, i < be.length → ∀ j, j < be.length → i < j → keepP l a (us, be.map Ex.xs) vs ms i j = true) := by
    show _ ↔ _
    rw [HR'.out, HLE.out]
    unfold keepF
    rw [decide_eq_true_iff]
  have HIN : Hid (∀ n, ∀ x ∈ withK vs (be.map Ex.xs) be.length n, x < vs.length) := by
    intro n x hx
    unfold withK at hx
    split at hx
    · exact within_lt hx
    · cases hx
  have HLN : Hid (∀ n, n < be.length → (withK vs (be.map Ex.xs) be.length n).length ≤ 10000) := by
    intro n hn
    unfold withK
    rw [if_pos hn]
    refine Nat.le_trans (within_len _ _) ?_
    rw [List.getD_eq_getElem?_getD]
    simp [hn]
    exact hxl _ (List.getElem_mem hn)
  have HKP : Hid (∀ i j, i < be.length → j < be.length → keepP l a (us, be.map Ex.xs) vs ms i j = (!(apartF us.length (marksF l a us) i j) || areF vs.length ms (withK vs (be.map Ex.xs) be.length i) (withK vs (be.map Ex.xs) be.length j))) := by
    intro i j hi hj
    unfold keepP withK
    rw [if_pos hi, if_pos hj]
  clear WI HO0 HO1 HAT HC y0 y1 p0 p1 p2 s0 s1 x0 x1
  go_wp2
  go_loopg [9] be.length (fun gk iv wr => ∃ (i : Nat), i ≤ be.length ∧ gk = be.length - i ∧ iv = .int .i64 i ∧ Hid (∀ i', i' < i → ∀ j', j' < be.length → i' < j' → keepP l a (us, be.map Ex.xs) vs ms i' j' = true) ∧ Kept [] w2 wr)
  case atStart => exact ⟨0, by omega, by omega, rfl, fun i' hi' => by omega, Kept.refl _ _⟩
  case round =>
    obtain ⟨i, hi, hg, rfl, hall, hK⟩ := hrel
    by_cases hlt : i < be.length
    · go_wp2_with fail
      go_loopg [10] (be.length - (i + 1)) (fun gk2 jv wr2 => ∃ (j : Nat), i + 1 ≤ j ∧ j ≤ be.length ∧ gk2 = be.length - j ∧ jv = .int .i64 j ∧ Hid (∀ j', i < j' → j' < j → keepP l a (us, be.map Ex.xs) vs ms i j' = true) ∧ Kept [] w2 wr2)
      case atStart => exact ⟨i + 1, by omega, by omega, by omega, by go_num, fun j' h1 h2 => by omega, hK⟩
      case round =>
        obtain ⟨j, hj1, hj, hg2, rfl, hrow, hK2⟩ := hrel
        clear hK
        by_cases hlj : j < be.length
        · have hA := A2'.still hK2
          have hG := G2.still hK2
          have d1 := hG.cell i hlt
          have d2 := hG.cell j hlj
          have q1 := HLN.out i hlt
          have q2 := HLN.out j hlj
          have hij : (i : Int) < be.length := by omega
          have hjj : (j : Int) < be.length := by omega
          have AP := fun nq => apart_any tb2 us (marksF l a us) hv2 hm2 i j (wr.drewN nq) (hA.still ((Kept.refl [] _).drewN nq)) hml2 hul (by rw [← HLE.out]; exact hlt) (by rw [← HLE.out]; exact hlj)
          have AR := fun nq => areApart_any b rb ro g n tb vs ms hv hm (K i) (K j) (withK vs (be.map Ex.xs) be.length i) (withK vs (be.map Ex.xs) be.length j) (wr.drewN nq) ((hp2.still hK2).still ((Kept.refl [] _).drewN nq)) ((h2.still hK2).still ((Kept.refl [] _).drewN nq)) hml hvl ((hG.still ((Kept.refl [] _).drewN nq)).own i hlt) ((hG.still ((Kept.refl [] _).drewN nq)).own j hlj) (by omega) (by omega) (HIN.out i) (HIN.out j)
          have HKPij := (show Hid _ from HKP.out i j hlt hlj)
          have HYE : Hid (keepP l a (us, be.map Ex.xs) vs ms i j = true → ∀ j', i < j' → j' < j + 1 → keepP l a (us, be.map Ex.xs) vs ms i j' = true) := by
            intro hh j' h1 h2
            by_cases e : j' = j
            · subst e; exact hh
            · exact hrow.out j' h1 (by omega)
          have HNO : Hid (keepP l a (us, be.map Ex.xs) vs ms i j = false → R = false) := by
            intro hh
            cases e : R
            · rfl
            · have := HT.out.1 e i hlt j hlj (by omega)
              rw [this] at hh; cases hh
          have HAP := (show Hid _ from AP)
          have HAR := (show Hid _ from AR)
          clear AP AR hall hrow hG hA
          generalize withK vs (be.map Ex.xs) be.length i = X at *
          generalize withK vs (be.map Ex.xs) be.length j = Y at *
          cases hb : apartF us.length (marksF l a us) i j
          · have HM := (show Hid _ from HYE.out (by rw [HKPij.out, hb]; rfl))
            rw [hb] at HAP
            clear HNO HYE
            go_upto_region 9 with fail
            go_quiet (first | (go_at_call 129; exact Calls.quiet_of_same (HAP.out _)))
            go_wp2
            go_roundg (be.length - (j + 1))
            case measure => omega
            case rel => exact ⟨j + 1, by omega, by omega, rfl, by go_num, HM.out, hK2.drewN _⟩
          · rw [hb] at HAP
            cases hc : areF vs.length ms X Y
            · have HM := (show Hid _ from HNO.out (by rw [HKPij.out, hb, hc]; rfl))
              rw [hc] at HAR
              clear HNO HYE
              go_upto_region 9 with fail
              go_quiet (first | (go_at_call 129; exact Calls.quiet_of_same (HAP.out _)) | (go_at_call 130; exact Calls.quiet_of (HAR.out _)))
              go_wp2
              go_ret
              exact ⟨ret_bool HM.out.symm, K2.trans (hK2.drewN _)⟩
            · have HM := (show Hid _ from HYE.out (by rw [HKPij.out, hb, hc]; rfl))
              rw [hc] at HAR
              clear HNO HYE
              go_upto_region 9 with fail
              go_quiet (first | (go_at_call 129; exact Calls.quiet_of_same (HAP.out _)) | (go_at_call 130; exact Calls.quiet_of (HAR.out _)))
              go_wp2
              go_roundg (be.length - (j + 1))
              case measure => omega
              case rel => exact ⟨j + 1, by omega, by omega, rfl, by go_num, HM.out, hK2.drewN _⟩
        · have HN : Hid (∀ i', i' < i + 1 → ∀ j', j' < be.length → i' < j' → keepP l a (us, be.map Ex.xs) vs ms i' j' = true) := by
            intro i' h1 j' h2 h3
            by_cases e : i' = i
            · subst e; exact hrow.out j' h3 (by omega)
            · exact hall.out i' (by omega) j' h2 h3
          clear hrow hall
          go_wp2
          go_roundg (be.length - (i + 1))
          case measure => omega
          case rel => exact ⟨i + 1, by omega, rfl, by go_num, HN, hK2⟩
    · have HM : Hid (R = true) := HT.out.2 (fun i' h1 j' h2 h3 => hall.out i' (by omega) j' h2 h3)
      clear hall
      go_wp2
      go_ret
      exact ⟨ret_bool HM.out.symm, K2.trans hK⟩

end Go.Proofs.YtkancbaldeeijaaGreat

/- Package player: activeVariables; fits, one after another. -/
namespace Go.Proofs.YtkancbaldeeijaaGreat
open Go.RowKit

/-- The variables that are active at a statement, as far as there is a $f of them. -/
def avOne (l : List St) (a n : Nat) : Option ByteArray := match l[n]? with
  | some s => if (s.kind == 2) = true ∧ heldF l n a = true then some (variableF s) else none
  | none => none
def avTo (l : List St) (a k : Nat) : List ByteArray := (List.range k).filterMap (avOne l a)
def avF (l : List St) (a : Nat) : List ByteArray := avTo l a l.length
theorem avTo_yes (l : List St) (a k : Nat) (h : k < l.length) (h1 : (l[k].kind == 2) = true) (h2 : heldF l k a = true) : avTo l a (k + 1) = avTo l a k ++ [variableF l[k]] := by
  unfold avTo; rw [List.range_succ, List.filterMap_append]; simp [avOne, h, h1, h2]
theorem avTo_no (l : List St) (a k : Nat) (h : k < l.length) (h1 : (l[k].kind == 2) = false ∨ heldF l k a = false) : avTo l a (k + 1) = avTo l a k := by
  unfold avTo; rw [List.range_succ, List.filterMap_append]
  have : avOne l a k = none := by
    unfold avOne; rw [List.getElem?_eq_getElem h]
    simp only
    rw [if_neg]
    rintro ⟨q1, q2⟩
    rcases h1 with h1 | h1
    · rw [h1] at q1; cases q1
    · rw [h1] at q2; cases q2
  simp [this]
theorem avTo_len (l : List St) (a k : Nat) : (avTo l a k).length ≤ k := by
  have := List.length_filterMap_le (avOne l a) (List.range k)
  unfold avTo; simpa using this

set_option maxHeartbeats 1600000 in
set_option maxRecDepth 100000 in
theorem activeVariables_any (b o a : Nat) (l : List St) (H : Nat → Hd) (w : World) (h : RecAt w b o l H) (ok : RecOk l) :
    Calls Tryz.prog 68 #[.pointer (some ⟨b, o, none⟩), .int .i64 a] w fun e w' => ∃ hd : Hd, e = .returned (.slice hd.ao (avF l a).length hd.cap) ∧ Owns w' hd (rowS (avF l a)) ∧ (∀ x, hd.blk = some x → w.heap.size ≤ x) ∧ Kept [] w w' := by
  obtain ⟨i0, hi, hz0, hz1, hz2⟩ := info_parts infoS
  have hlen := ok.len
  go_enter Tryz.func68, Tryz.ntmps68
  go_wp2
  go_loopg [5, 6] l.length (fun gk sv i wr => ∃ (k : Nat) (hd : Hd), k ≤ l.length ∧ gk = l.length - k ∧ i = .int .i64 k ∧ sv = .slice hd.ao (avTo l a k).length hd.cap ∧ Owns wr hd (rowS (avTo l a k)) ∧ (∀ x, hd.blk = some x → w.heap.size ≤ x) ∧ Kept [] w wr)
  case atStart => exact ⟨0, ⟨none, 0⟩, by omega, by omega, rfl, rfl, World.ownsRow_nil _ _ _ _, by intro x hx; simp [Hd.blk] at hx, Kept.refl _ _⟩
  case round =>
    obtain ⟨k, hd, hk, hg, rfl, rfl, hO, hN, hK⟩ := hrel
    have hr := h.still hK
    have hal := avTo_len l a k
    by_cases hlt : k < l.length
    · have hsl := ok.syms k hlt
      have HY := (show Hid _ from avTo_yes l a k hlt)
      have HN0 := (show Hid _ from avTo_no l a k hlt)
      have VA := variable_any l[k] (H (10 + 2 * k)) (H (11 + 2 * k))
      unfold stVal at VA
      have HVA := (show Hid _ from VA)
      clear VA
      go_upto_region 6 with (first | (go_at_call 36; refine (count_any b o l H _ (by exact hr)).mono ?_; rintro e wc ⟨rfl, hwc⟩; rw [hwc]) | (go_at_call 43; refine (statement_any b o k l H _ (by exact hr) hlt).mono ?_; rintro e w3 ⟨rfl, hk3⟩; unfold stVal))
      obtain ⟨W4, hW4⟩ : ∃ W4, W4 = w3.alloc (.cells #[.int .i64 l[k].kind, .string l[k].label, .slice (H (10 + 2 * k)).ao l[k].symbols.length (H (10 + 2 * k)).cap, .slice (H (11 + 2 * k)).ao l[k].proof.length (H (11 + 2 * k)).cap, .string l[k].fin.file, .int .i64 l[k].fin.line, .int .i64 l[k].fin.col, .int .i64 l[k].til] 100) := ⟨_, rfl⟩
      have hk4 : Kept [] wr W4 := by rw [hW4]; exact hk3.alloc _
      have B4 : W4.heap[w3.heap.size]? = some (.cells #[.int .i64 l[k].kind, .string l[k].label, .slice (H (10 + 2 * k)).ao l[k].symbols.length (H (10 + 2 * k)).cap, .slice (H (11 + 2 * k)).ao l[k].proof.length (H (11 + 2 * k)).cap, .string l[k].fin.file, .int .i64 l[k].fin.line, .int .i64 l[k].fin.col, .int .i64 l[k].til] 100 (0, 0)) := by rw [hW4]; exact heap_alloc_new _ _
      rw [← hW4]
      clear hW4
      have u0 : W4.cell? ⟨w3.heap.size, 0, none⟩ = some (.int .i64 l[k].kind) := by rw [cell_of B4]; rfl
      have u1 : W4.cell? ⟨w3.heap.size, 1, none⟩ = some (.string l[k].label) := by rw [cell_of B4]; rfl
      have u2 : W4.cell? ⟨w3.heap.size, 2, none⟩ = some (.slice (H (10 + 2 * k)).ao l[k].symbols.length (H (10 + 2 * k)).cap) := by rw [cell_of B4]; rfl
      have u3 : W4.cell? ⟨w3.heap.size, 3, none⟩ = some (.slice (H (11 + 2 * k)).ao l[k].proof.length (H (11 + 2 * k)).cap) := by rw [cell_of B4]; rfl
      have u4 : W4.cell? ⟨w3.heap.size, 4, none⟩ = some (.string l[k].fin.file) := by rw [cell_of B4]; rfl
      have u5 : W4.cell? ⟨w3.heap.size, 5, none⟩ = some (.int .i64 l[k].fin.line) := by rw [cell_of B4]; rfl
      have u6 : W4.cell? ⟨w3.heap.size, 6, none⟩ = some (.int .i64 l[k].fin.col) := by rw [cell_of B4]; rfl
      have u7 : W4.cell? ⟨w3.heap.size, 7, none⟩ = some (.int .i64 l[k].til) := by rw [cell_of B4]; rfl
      have hr4 := hr.still hk4
      have hO4 : Owns W4 hd (rowS (avTo l a k)) := hO.moved (fun x hx => hk4.block x (hO.lt hx) (by simp))
      have hV4 := (hr4.sts.syms k l[k] (List.getElem?_eq_getElem hlt)).view
      have hK4 := hK.trans hk4
      cases h2 : (l[k].kind == 2)
      · have HT := (show Hid _ from HN0.out (Or.inl h2))
        clear HY HN0
        go_wp2
        go_roundg (l.length - (k + 1))
        case measure => omega
        case rel => exact ⟨k + 1, hd, by omega, rfl, by go_num, by rw [HT.out], by rw [HT.out]; exact hO4, hN, hK4⟩
      · cases hh : heldF l k a
        · have HT := (show Hid _ from HN0.out (Or.inr hh))
          clear HY HN0
          go_wp2_with (go_at_call 64; refine (holds_any b o k a l H _ (by exact hr4) hlt).mono ?_; rintro e wd ⟨rfl, hwd⟩; rw [hwd, hh])
          go_roundg (l.length - (k + 1))
          case measure => omega
          case rel => exact ⟨k + 1, hd, by omega, rfl, by go_num, by rw [HT.out], by rw [HT.out]; exact hO4, hN, hK4⟩
        · have HT := (show Hid _ from HY.out h2 hh)
          clear HY HN0
          go_wp2_with (first | (go_at_call 64; refine (holds_any b o k a l H _ (by exact hr4) hlt).mono ?_; rintro e wd ⟨rfl, hwd⟩; rw [hwd, hh]) | (go_at_call 85; refine (HVA.out _ (by exact hV4) (by omega)).mono ?_; rintro e w5 ⟨rfl, k5⟩; have hO5 := hO4.moved (fun x hx => (k5.alloc (.cells #[.string (variableF l[k])] 9)).block x (hO4.lt hx) (by simp))) | (at_builtin; refine wpList_append_row _ rfl (.tmp 26) (.tmp 29) 22 rfl i0 (.string ⟨#[]⟩) 16 hd (rowS (avTo l a k)) Tryz.underlying22 hi hz0 hz1 hz2 rfl Nat.one_pos rfl (by exact hO5) ⟨_, 0, none⟩ 1 1 [.string (variableF l[k])] rfl rfl ?d1 ?d2 Nat.one_pos ?d3 ?d4 ?_))
          case d1 => intro j u hj; match j, hj with | 0, hj => simp at hj; subst hj; simp [Addr.add]
          case d2 => intro u hu; simp at hu; subst hu; rfl
          case d3 => simp only [rowS]; unfold maxLen; omega
          case d4 => simp only [rowS]; omega
          intro g6 cap6 w6 hw6 hgr6 hfresh6
          rw [rowS_snoc (avTo l a k) (variableF l[k]), ← HT.out] at hw6
          have hK5 := (hK4.trans k5).alloc (.cells #[.string (variableF l[k])] 9)
          have hK6 := hK5.grown hgr6 hN
          have hg6 : w.heap.size ≤ g6 := by
            rcases hfresh6 with e | e
            · exact hN g6 e
            · have := hK5.size; simp at e this; omega
          have hEl : Hid ((rowS (avTo l a k)).n + 1 = (avTo l a (k + 1)).length) := by show _ = _; rw [HT.out]; simp [rowS]
          rw [hEl.out]
          clear hgr6 hfresh6 hO5
          go_wp2
          go_roundg (l.length - (k + 1))
          case measure => omega
          case rel => exact ⟨k + 1, ⟨some ⟨g6, 0, none⟩, cap6⟩, by omega, rfl, by go_num, rfl, hw6, by intro x hx; simp [Hd.blk] at hx; omega, hK6⟩
    · have e : k = l.length := by omega
      subst e
      go_wp2_with (go_at_call 36; refine (count_any b o l H _ (by exact hr)).mono ?_; rintro e wc ⟨rfl, hwc⟩; rw [hwc])
      go_ret
      exact ⟨hd, rfl, hO, hN, hK⟩

end Go.Proofs.YtkancbaldeeijaaGreat

/- Package player: a player; apply as a function. -/
namespace Go.Proofs.YtkancbaldeeijaaGreat
open Go.RowKit

def stD : St := ⟨0, ⟨#[]⟩, [], [], ⟨⟨#[]⟩, 0, 0⟩, 0⟩
abbrev Sbs := List ByteArray × List (List ByteArray)
/-- The expressions laid to the hypotheses, one after another. -/
def fitAll (l : List St) : List Nat → List (List ByteArray) → Sbs → Int × Sbs
  | h :: hs, e :: es, S => if ((fitF (l.getD h stD) e S).1 == 0) = true then fitAll l hs es (fitF (l.getD h stD) e S).2 else fitF (l.getD h stD) e S
  | _, _, S => (0, S)
def applyR (l : List St) (n : Nat) (vs : List ByteArray) (ms : List Bool) (sy : List ByteArray) (R : Int × Sbs) : Int × List ByteArray :=
  if (R.1 == 0) = true then (if keepF l n R.2 vs ms = true then (0, replF R.2.1 R.2.2 sy) else (9, [])) else (R.1, [])
/-- What an assertion shows of what is there: why it may not; the expression. -/
def applyF (l : List St) (n : Nat) (vs : List ByteArray) (ms : List Bool) (th : List (List ByteArray)) : Int × List ByteArray :=
  if th.length < (hypsF l n).length then (6, [])
  else applyR l n vs ms (l.getD n stD).symbols (fitAll l (hypsF l n) (th.drop (th.length - (hypsF l n).length)) ([], []))

theorem getD_st (l : List St) (k : Nat) (h : k < l.length) : l.getD k stD = l[k] := by rw [List.getD_eq_getElem?_getD, List.getElem?_eq_getElem h]; rfl
theorem fitAll_at (l : List St) (hs : List Nat) (es : List (List ByteArray)) (S : Sbs) (i : Nat) (h1 : i < hs.length) (h2 : i < es.length) (hl : hs[i] < l.length) :
    fitAll l (hs.drop i) (es.drop i) S = if ((fitF l[hs[i]] es[i] S).1 == 0) = true then fitAll l (hs.drop (i + 1)) (es.drop (i + 1)) (fitF l[hs[i]] es[i] S).2 else fitF l[hs[i]] es[i] S := by
  rw [List.drop_eq_getElem_cons h1, List.drop_eq_getElem_cons h2, fitAll, getD_st l _ hl]
theorem fitAll_end (l : List St) (hs : List Nat) (es : List (List ByteArray)) (S : Sbs) (i : Nat) (h1 : ¬ i < hs.length) : fitAll l (hs.drop i) es S = (0, S) := by
  rw [List.drop_of_length_le (by omega)]; cases es <;> rfl

/-- How great a substitution is. -/
structure SbsOk (S : Sbs) (N : Nat) : Prop where
  one : S.1.length ≤ N
  two : ∀ y ∈ S.2, y.length ≤ 10000
theorem fitF_ok (s : St) (e : List ByteArray) (S : Sbs) (N : Nat) (h : SbsOk S N) (he : e.length ≤ 10000) : SbsOk (fitF s e S).2 (N + 1) := by
  have h1 := h.one
  unfold fitF
  split
  · split <;> exact ⟨by simp only; omega, h.two⟩
  · split
    · exact ⟨by simp only; omega, h.two⟩
    · next x r =>
      split
      · refine ⟨by simp; omega, fun y hy => ?_⟩
        simp at hy
        rcases hy with hy | rfl
        · exact h.two y hy
        · simp at he; omega
      · exact ⟨by simp only; omega, h.two⟩

theorem hypsTo_lt (l : List St) (a k : Nat) : ∀ x ∈ hypsTo l a k, x < k := by
  induction k with
  | zero => intro x hx; simp [hypsTo] at hx
  | succ k ih =>
    intro x hx
    cases h : mandAt l (symsOfF l a) a k
    · rw [hypsTo_no l a k h] at hx
      have := ih x hx; omega
    · rw [hypsTo_yes l a k h] at hx
      simp at hx
      rcases hx with hx | rfl
      · have := ih x hx; omega
      · omega
theorem hypsF_lt {l : List St} {a x : Nat} (h : x ∈ hypsF l a) : x < l.length := hypsTo_lt l a l.length x h

theorem Owns.cutE {w : World} {h : Hd} {l : List Ex} (o : Owns w h (rowE l)) (c : Nat) (hc : c ≤ l.length) : Owns w h (rowE (l.take c)) := by
  have hlen : (l.take c).length = c := by simp; omega
  refine ⟨by simp [rowE, exsV], ?_⟩
  rcases o.2 with ⟨hv, hn⟩ | ⟨g, cap, cur, hv, hb, hh, h1, h2, h3, h4⟩
  · left
    have : l.length = 0 := hn
    have hl : l = [] := List.eq_nil_of_length_eq_zero this
    subst hl
    simp [rowE] at hv ⊢
    exact hv
  · right
    have h1' : l.length ≤ cap := h1
    refine ⟨g, cap, cur, ?_, hb, hh, ?_, h2, h3, ?_⟩
    · injection hv with a1 a2 a3
      simp only [rowE]
      rw [a1, a3]
    · show (l.take c).length ≤ cap
      omega
    · show cur.toList.take ((l.take c).length * 1) = exsV (l.take c)
      have h4' : cur.toList.take (l.length * 1) = exsV l := h4
      rw [hlen]
      unfold exsV at h4' ⊢
      rw [List.map_take, ← h4', List.take_take]
      congr 1
      omega

/-- A player: its own two lists; what it only looks at. -/
def rowPl (sh th : List Ex) : Nat → Row
  | 0 => rowE sh
  | 1 => rowE th
  | _ + 2 => rowE []
def plyList (rb ro g n tb : Nat) (sh th : List Ex) (H : Nat → Hd) : List Value :=
  [.pointer (some ⟨rb, ro, none⟩), .slice (some ⟨g, 0, none⟩) n n, .pointer (some ⟨tb, 0, none⟩), .slice (H 0).ao sh.length (H 0).cap, .slice (H 1).ao th.length (H 1).cap]
structure PlyIs (w : World) (b rb ro g n tb : Nat) (sh th : List Ex) (H : Nat → Hd) : Prop where
  bag : BagIs w b 137 (plyList rb ro g n tb sh th H) (rowPl sh th) H
  shs : ∀ e ∈ sh, FarV w b H e.hd e.xs ∧ e.xs.length ≤ 32
  ths : ∀ e ∈ th, FarV w b H e.hd e.xs ∧ e.xs.length ≤ 32
theorem PlyIs.still {w w' : World} {b rb ro g n tb : Nat} {sh th : List Ex} {H : Nat → Hd} (h : PlyIs w b rb ro g n tb sh th H) (k : Kept [] w w') : PlyIs w' b rb ro g n tb sh th H :=
  ⟨h.bag.still k, fun e he => ⟨(h.shs e he).1.still k, (h.shs e he).2⟩, fun e he => ⟨(h.ths e he).1.still k, (h.ths e he).2⟩⟩
theorem PlyIs.ctx {w : World} {b rb ro g n tb : Nat} {sh th : List Ex} {H : Nat → Hd} (h : PlyIs w b rb ro g n tb sh th H) : PCtx w b rb ro g n tb := ⟨_, _, h.bag.blk, rfl, rfl, rfl⟩
theorem PlyIs.cells {w : World} {b rb ro g n tb : Nat} {sh th : List Ex} {H : Nat → Hd} (h : PlyIs w b rb ro g n tb sh th H) :
    w.cell? ⟨b, 3, none⟩ = some (.slice (H 0).ao sh.length (H 0).cap) ∧ w.cell? ⟨b, 4, none⟩ = some (.slice (H 1).ao th.length (H 1).cap) := ⟨h.bag.cell 3, h.bag.cell 4⟩

/-- What a player looks at. -/
structure PEnv (w : World) (rb ro g tb : Nat) (l : List St) (HR K : Nat → Hd) (vs : List ByteArray) (ms : List Bool) (hv hm : Hd) : Prop where
  recd : RecAt w rb ro l HR
  ok : RecOk l
  all : AllIs w g l l.length K
  ap : ApIs w tb vs ms hv hm
  hml : ms.length = vs.length * vs.length
  hvl : vs.length ≤ 10000
theorem PEnv.still {w w' : World} {rb ro g tb : Nat} {l : List St} {HR K : Nat → Hd} {vs : List ByteArray} {ms : List Bool} {hv hm : Hd} (h : PEnv w rb ro g tb l HR K vs ms hv hm) (k : Kept [] w w') : PEnv w' rb ro g tb l HR K vs ms hv hm :=
  ⟨h.recd.still k, h.ok, h.all.still k, h.ap.still k, h.hml, h.hvl⟩
/-- A player at work. -/
structure Plays (w0 w : World) (b rb ro g n tb : Nat) (sh th : List Ex) (H : Nat → Hd) : Prop where
  ply : PlyIs w b rb ro g n tb sh th H
  kept : Kept [] w0 w
  hb : w0.heap.size ≤ b
  hin : ∀ x, InH H x → w0.heap.size ≤ x
theorem Plays.still {w0 w w' : World} {b rb ro g n tb : Nat} {sh th : List Ex} {H : Nat → Hd} (h : Plays w0 w b rb ro g n tb sh th H) (k : Kept [] w w') : Plays w0 w' b rb ro g n tb sh th H :=
  ⟨h.ply.still k, h.kept.trans k, h.hb, h.hin⟩

end Go.Proofs.YtkancbaldeeijaaGreat
