/- Our texts: Fm2. -/
import Derived.Deep.CutRange
import Derived.Deep.CutBlock
import Derived.Test.YtcipkfhpcbddiaaGreatG25
import Derived.Test.YtcipkfhpcbddiaaGreatG26
import Derived.Test.YtcipkfhpcbddiaaGreatG27
/- Package metaproofkeep: form. (Made by wip/gen/fmr.py.) -/
namespace Go.Proofs.YtcipkfhpcbddiaaGreat
open Go.RowKit
attribute [local go_sem] build_form

structure FmLe (f : Fm) (n : Nat) : Prop where
  hy : f.hyps.length ≤ n
  wh : f.which.length ≤ n
  va : f.vars.length ≤ n
  ty : f.types.length ≤ n
  ess : f.ess.length ≤ n
  le : f.left.length ≤ n
  ri : f.right.length ≤ n
theorem FmLe.step {f : Fm} {n : Nat} (h : FmLe f n) (ws : List ByteArray) : FmLe (stepF f ws) (n + 1) := by
  obtain ⟨h1, h2, h3, h4, h5, h6, h7⟩ := h
  unfold stepF
  split
  · constructor <;> simp <;> omega
  · split
    · constructor <;> simp <;> omega
    · split
      · constructor <;> simp <;> omega
      · constructor <;> simp <;> omega
theorem form_le (L : List ByteArray) (k : Nat) (h : k ≤ L.length) : FmLe (formTo L k) k := by
  induction k with
  | zero => constructor <;> simp [formTo, fm0]
  | succ k ih => rw [formTo_next L k (by omega)]; exact (ih (by omega)).step _
theorem lns_cell {w : World} {g : Nat} {L : List ByteArray} (h : LnsAt w g L L.length) (k : Nat) (hk : k < L.length) : w.cell? ⟨g, k, none⟩ = some (.string L[k]) := by
  unfold LnsAt at h
  rw [partL_end] at h
  rw [cell_of h]
  simp [strs, hk]
theorem three_of (l : List ByteArray) (h : 3 ≤ l.length) : ∃ x0 x1 x2 r, l = x0 :: x1 :: x2 :: r := by
  match l, h with
  | x0 :: x1 :: x2 :: r, _ => exact ⟨x0, x1, x2, r, rfl⟩
theorem split_len (s : ByteArray) : (splitF s).length ≤ s.size + 1 := by
  unfold splitF
  have := (spAt_le s s.size).2
  simp; omega

set_option maxHeartbeats 4000000 in
set_option maxRecDepth 100000 in
theorem form_core (b x : Nat) (lab : ByteArray) (L : List ByteArray) (w : World) (c0 : w.cell? ⟨b, 0, none⟩ = some (.pointer (some ⟨x, 0, none⟩))) (hb : b < w.heap.size) (hL : 0 < L.length) (hLb : L.length ≤ 200000000)
    (VF : Hid (∀ w', Kept [] w w' → Calls Tryz.prog 28 #[.pointer (some ⟨x, 0, none⟩), .string lab] w' fun e w'' => ∃ g, e = .returned (.tuple #[.slice (some ⟨g, 0, none⟩) L.length L.length, .int .i64 0]) ∧ LnsAt w'' g L L.length ∧ w'.heap.size ≤ g ∧ Kept [] w' w''))
    (hok : Hid (∀ k (h : k < L.length), LineOk lab (decide (k + 1 = L.length)) L[k])) (hgo : Hid (0 < (formF L).goal.length)) :
    Calls Tryz.prog 31 #[.pointer (some ⟨b, 0, none⟩), .string lab] w fun e w' => ∃ F g es hg H, e = .returned (.tuple #[.pointer (some ⟨F, 0, none⟩), .bool true]) ∧ FmIs w' F w.heap.size lab (.slice (some ⟨g, 0, none⟩) L.length L.length) (formF L) es hg H ∧ LnsAt w' g L L.length ∧ (w.heap.size ≤ g ∧ g ≠ F ∧ ¬ InH H g) ∧ Kept [] w w' := by
  obtain ⟨i0, hi, hz0, hz1, hz2⟩ := info_parts infoS
  obtain ⟨i1, hi1, hy0, hy1, hy2⟩ := info_parts infoN
  obtain ⟨i2, hi2, hx0, hx1, hx2⟩ := info_parts infoLS
  obtain ⟨W, hW⟩ : ∃ W, W = w.alloc (.cells #[.string lab, .slice none 0 0, .slice none 0 0, .slice none 0 0, .slice none 0 0, .slice none 0 0, .slice none 0 0, .slice none 0 0, .slice none 0 0, .slice none 0 0] 67) := ⟨_, rfl⟩
  have kW : Kept [] w W := by rw [hW]; exact (Kept.refl [] _).alloc _
  have BW : W.heap[w.heap.size]? = some (.cells #[.string lab, .slice none 0 0, .slice none 0 0, .slice none 0 0, .slice none 0 0, .slice none 0 0, .slice none 0 0, .slice none 0 0, .slice none 0 0, .slice none 0 0] 67 (0, 0)) := by rw [hW]; exact heap_alloc_new _ _
  have HW := (show Hid _ from hW.symm)
  clear hW
  have cW : W.cell? ⟨b, 0, none⟩ = some (.pointer (some ⟨x, 0, none⟩)) := by rw [World.cell?_of_block (kW.block b hb (by simp))]; exact c0
  have hbW : b < W.heap.size := Nat.lt_of_lt_of_le hb kW.size
  have HF := (show Hid _ from VF.out W kW)
  clear c0
  go_enter Tryz.func31, Tryz.ntmps31
  go_upto_region 2 with fail
  rw [HW.out]
  go_wp2_with fail
  refine Calls.mono HF.out ?_
  rintro e w2 ⟨g, rfl, hL2, hg2, k2⟩
  have B2 := k2.get BW (by simp)
  have y0 : w2.cell? ⟨w.heap.size, 1, none⟩ = some (.slice none 0 0) := by rw [cell_of B2]; rfl
  have yf := free_of B2
  have hF2 := lt_of_get B2
  have hLi : ((L.length : Int) == 0) = false := by rw [beq_eq_false_iff_ne]; omega
  have hWs := lt_of_get BW
  obtain ⟨F, HFF⟩ : ∃ F, Hid (w.heap.size = F) := ⟨_, rfl⟩
  have A0 : Hid (FmIs (w2.setCell ⟨w.heap.size, 1, none⟩ (.slice (some ⟨g, 0, none⟩) L.length L.length)) w.heap.size w.heap.size lab (.slice (some ⟨g, 0, none⟩) L.length L.length) fm0 [] ⟨none, 0⟩ noHd) := by
    refine ⟨⟨?_, ?_, ?_, ?_⟩, ⟨Nat.le_refl _, ?_⟩, ?_, rfl, Or.inl rfl, ?_⟩
    · rw [block_setCell B2]; rfl
    · intro i
      rcases i with _|_|_|_|_|_|_|i <;> exact World.ownsRow_nil _ _ _ _
    · intro i j _; exact Or.inl rfl
    · intro i e; simp [noHd, Hd.blk] at e
    · rintro k ⟨i, e⟩; simp [noHd, Hd.blk] at e
    · intro e he; simp at he
    · intro x hx; simp [Hd.blk] at hx
  have A1 : Hid (LnsAt (w2.setCell ⟨w.heap.size, 1, none⟩ (.slice (some ⟨g, 0, none⟩) L.length L.length)) g L L.length) := (Below.heap_setCell _ _ _ _ (by show g ≠ w.heap.size; omega)).trans hL2
  have A2 : Hid (Kept [] w (w2.setCell ⟨w.heap.size, 1, none⟩ (.slice (some ⟨g, 0, none⟩) L.length L.length))) := (kW.trans k2).setCell (Or.inr (Nat.le_refl _)) _
  have A3 : Hid (w.heap.size ≤ g ∧ g ≠ w.heap.size ∧ ¬ InH noHd g) := ⟨by omega, by omega, by rintro ⟨i, e⟩; simp [noHd, Hd.blk] at e⟩
  rw [HFF.out] at A0 A1 A2 A3 y0 yf hF2
  have HFE : Hid (formTo L 0 = fm0) := rfl
  rw [show (⟨w.heap.size, 0, none⟩ : Addr) = ⟨F, 0, none⟩ by rw [HFF.out]]
  clear BW B2 hL2
  go_wp2
  go_loopg [9] L.length (fun gk i wr => ∃ (k : Nat) (es : List Ex) (hg : Hd) (H : Nat → Hd), k ≤ L.length ∧ gk = L.length - k ∧ i = .int .i64 k ∧ FmIs wr F w.heap.size lab (.slice (some ⟨g, 0, none⟩) L.length L.length) (formTo L k) es hg H ∧ LnsAt wr g L L.length ∧ (w.heap.size ≤ g ∧ g ≠ F ∧ ¬ InH H g) ∧ Kept [] w wr)
  case atStart => exact ⟨0, [], ⟨none, 0⟩, noHd, by omega, by omega, rfl, by rw [HFE.out, HFF.out]; exact A0.out, A1.out, by rw [HFF.out]; exact A3.out, A2.out⟩
  case round =>
    obtain ⟨k, es, hg, H, hk, hgk, rfl, hFm, hLn, hGf, hK⟩ := hrel
    have hle := form_le L k hk
    clear A0 A1 A2 A3 y0 yf
    by_cases hlt : k < L.length
    · have cl := lns_cell hLn k hlt
      have HOKk := (show Hid _ from hok.out k hlt)
      have HNX := (show Hid _ from formTo_next L k hlt)
      have hgl := lt_of_get hLn
      have hsz := HOKk.out.size
      generalize L[k] = ln at *
      generalize formTo L k = f at *
      obtain ⟨hy, wh, va, ty, ess, le, ri, go⟩ := f
      obtain ⟨l1, l2, l3, l4, l5, l6, l7⟩ := hle
      simp only at l1 l2 l3 l4 l5 l6 l7
      have hki : (k : Int) < L.length := by omega
      have les : es.length ≤ k := by have := congrArg List.length hFm.ess; simp at this; omega
      have Hesl : Hid (es.length = ess.length) := by show _ = _; have := congrArg List.length hFm.ess; simpa using this
      go_wp2_with fail
      refine (split_any ln wr hsz).mono ?_
      rintro e w3 ⟨ht, rfl, hO3, hN3, k3⟩
      obtain ⟨x0, x1, x2, r, hws⟩ := three_of _ HOKk.out.len
      have hlw := split_len ln
      have HWay := (show Hid _ from HOKk.out.way)
      rw [hws] at hO3 hlw HNX HWay ⊢
      rcases hO3.ways with ⟨_, h0, _⟩ | ⟨gt, curt, et, et2, et3, et4, -⟩
      · have : (x0 :: x1 :: x2 :: r).length = 0 := h0
        simp at this
      obtain ⟨ao, tc⟩ := ht
      simp only at et et3 et4
      subst et
      have hgt : wr.heap.size ≤ gt := hN3 gt rfl
      have hFl := hFm.bag.lt
      have S0 : FmSt w w3 F g lab L ⟨hy, wh, va, ty, ess, le, ri, go⟩ es hg H gt tc (x0 :: x1 :: x2 :: r) := ⟨hFm.still k3, hLn.kept k3 (by simp), hGf, hO3, ⟨by omega, fun hin => by have := hFm.bag.inlt hin; omega⟩, hK.trans k3⟩
      obtain ⟨nw, HNW⟩ : ∃ nw, Hid ((x0 :: x1 :: x2 :: r).length = nw) := ⟨_, rfl⟩
      have hnw : 3 ≤ nw := by rw [← HNW.out]; simp
      have htc : nw ≤ tc := by rw [← HNW.out]; exact et3
      have htm : tc ≤ 9223372036854775807 := by unfold maxLen at et4; exact et4
      have hnb : nw ≤ 1073741825 := by rw [← HNW.out]; omega
      rw [HNW.out]
      have q0 : 0 < nw := by omega
      have q1 : (1 : Int) < (nw : Int) := by omega
      have q2 : (2 : Int) < (nw : Int) := by omega
      have q3 : (2 : Int) ≤ (nw : Int) := by omega
      have qw : IntKind.i64.wrap (-1 - (es.length : Int)) = -1 - (es.length : Int) := by rw [IntKind.wrap_i64]; omega
      have HT : Hid (formTo L (k + 1) = stepF ⟨hy, wh, va, ty, ess, le, ri, go⟩ (x0 :: x1 :: x2 :: r)) := HNX.out
      obtain ⟨wc, HWC⟩ : ∃ wc, Hid (w3 = wc) := ⟨_, rfl⟩
      rw [HWC.out] at S0 ⊢
      have HS0 := (show Hid _ from S0)
      clear S0 hFm hLn hK hO3 et2 hN3 k3 hgl HOKk HNX cl hlw hgt
      have S := HS0
      clear HS0
      have cw0 := S.out.word 0 x0 rfl
      have cw1 := S.out.word 1 x1 rfl
      have hls0 := S.out.lts
      cases hd : (x0.toList == [36, 100])
      · have HW2 : Hid ((((x1.toList == [36, 102]) = true ∧ nw = 4) ∨ ((x1.toList == [36, 102]) = false ∧ ((x1.toList == [36, 101]) = true ∨ ((x1.toList == [36, 101]) = false ∧ ((x1.toList == [36, 97]) = true ∨ (x1.toList == [36, 112]) = true) ∧ (x0.toList == lab.toList) = true ∧ k + 1 = L.length))))) := by
          rcases HWay.out with h | ⟨_, h⟩
          · have : (x0.toList == [36, 100]) = true := h
            rw [hd] at this; cases this
          · rw [HNW.out] at h
            rcases h with h | ⟨h1, h2 | ⟨h2, h3, h4, h5⟩⟩
            · exact Or.inl h
            · exact Or.inr ⟨h1, Or.inl h2⟩
            · exact Or.inr ⟨h1, Or.inr ⟨h2, h3, h4, by simpa using h5⟩⟩
        clear HWay
        cases hf : (x1.toList == [36, 102])
        · cases he : (x1.toList == [36, 101])
          · have HG : Hid (((x1.toList == [36, 97]) = true ∨ (x1.toList == [36, 112]) = true) ∧ (x0.toList == lab.toList) = true ∧ k + 1 = L.length) := by
              rcases HW2.out with h | ⟨_, h | ⟨_, h⟩⟩
              · rw [hf] at h; cases h.1
              · rw [he] at h; cases h
              · exact h
            have HTT : Hid (formTo L (k + 1) = ⟨hy, wh, va, ty, ess, le, ri, x2 :: r⟩) := by
              show _ = _
              rw [HT.out]
              unfold stepF
              rw [if_neg (by show ¬ (x0.toList == [36, 100]) = true; rw [hd]; simp), if_neg (by rintro ⟨h, -⟩; have h' : (x1.toList == [36, 102]) = true := h; rw [hf] at h'; cases h'), if_neg (by show ¬ (x1.toList == [36, 101]) = true; rw [he]; simp)]
              rfl
            have hlast : (k : Int) = (L.length : Int) - 1 := by have := HG.out.2.2; omega
            have hlast' : ((k : Int) == (L.length : Int) - 1) = true := by simp [hlast]
            have hlab := HG.out.2.1
            have cF9 := S.out.cell 9 _ rfl
            have fF := free_of S.out.fm.bag.blk
            have htc2 : tc ≠ 2 := by omega
            have htci : (tc : Int) ≠ 2 := by omega
            have HR := S.out.rest
            have HGL := (show Hid _ from S.out.fm.goal (x2 :: r) ⟨some ⟨gt, 2, none⟩, tc - 2⟩ HR.view HR.far)
            have HGS := (show Hid _ from S.out.turn HGL.out.1 HGL.out.2)
            have hgw : (x2 :: r).length = nw - 2 := by rw [← HNW.out]; simp
            rw [hgw] at HGS
            clear HR HGL hgw
            rcases HG.out.1 with ha | hp
            · go_wp2_with fail
              go_roundg (L.length - (k + 1))
              case measure => omega
              case rel => exact ⟨k + 1, es, _, H, by omega, rfl, by go_num, by rw [HTT.out]; exact HGS.out.fm, HGS.out.lns, HGS.out.gf, HGS.out.kept⟩
            · cases ha : (x1.toList == [36, 97])
              · go_wp2_with fail
                go_roundg (L.length - (k + 1))
                case measure => omega
                case rel => exact ⟨k + 1, es, _, H, by omega, rfl, by go_num, by rw [HTT.out]; exact HGS.out.fm, HGS.out.lns, HGS.out.gf, HGS.out.kept⟩
              · go_wp2_with fail
                go_roundg (L.length - (k + 1))
                case measure => omega
                case rel => exact ⟨k + 1, es, _, H, by omega, rfl, by go_num, by rw [HTT.out]; exact HGS.out.fm, HGS.out.lns, HGS.out.gf, HGS.out.kept⟩
          · have HTT : Hid (formTo L (k + 1) = ⟨hy ++ [x0], wh ++ [-1 - (es.length : Int)], va, ty, ess ++ [x2 :: r], le, ri, go⟩) := by
              show _ = _
              rw [HT.out]
              unfold stepF
              rw [if_neg (by show ¬ (x0.toList == [36, 100]) = true; rw [hd]; simp), if_neg (by rintro ⟨h, -⟩; have h' : (x1.toList == [36, 102]) = true := h; rw [hf] at h'; cases h'), if_pos (by exact he), Hesl.out]
              rfl
            clear HT HW2
            have HT := HTT
            clear HTT
            go_upto_region 22 with fail
            go_cut [] from 146 to 157 (fun wd => ∃ H', FmSt w wd F g lab L ⟨hy ++ [x0], wh, va, ty, ess, le, ri, go⟩ es hg H' gt tc (x0 :: x1 :: x2 :: r))
            case first =>
              rename_i J K' hJ hK'
              exact wp_weak (reg22 w wc F g lab L (hy) (wh) (va) (ty) (ess) (le) (ri) (go) es hg H gt tc nw (x0 :: x1 :: x2 :: r) x0 rfl (by omega) (by omega) S _ _ _ _ _ _ _ _ _ _ _ _ _ _ _ _ _ _ _ _ _ _ _ _ _ _ _ _ _ _ _ _ _ _ _ _ _ _ _ _ _ _ _ _ _ _ _ _ _ _ _ _ _ _ _ _ _ _ _ _ _ _ _ _ _ _ _ _ _ _ _ _ _ _ _ _ _ _ _ _ _ _ _ _ _ _ _ _ _ _ _ _ _ _ _ _ _ _ _ _ _ _ _ _ _ _ _ _ _ _ _ _ _ _ _ _ _ _ _ _ _ _ _ _ _ _ _ _ _ _ _ _ _ _ _ _ _ _ _ _ _ _ _ _ _ _ _ _ _ _ _ _ _ _ _ _ _ _ _ _ _ _ _ _ _ _ _ _ _ _ _ _ _ _ _ _ _ _ _ _ _ _ _ _ _ _ _ _ _ _ _ _ _ _ _ _ _ _ _ _ _ _ _ _ _ _ _ _ _ _ _ _ _ _ _ _ _ _ _ _ J K' hJ hK')
            case rest =>
              clear S
              obtain ⟨H2, S2⟩ := hcut
              obtain ⟨H, S, -⟩ : ∃ H, Hid (FmSt w wc F g lab L ⟨hy ++ [x0], wh, va, ty, ess, le, ri, go⟩ es hg H gt tc (x0 :: x1 :: x2 :: r)) ∧ True := ⟨H2, S2, trivial⟩
              clear S2
              go_upto_region 23 with fail
              go_cut [] from 158 to 172 (fun wd => ∃ H', FmSt w wd F g lab L ⟨hy ++ [x0], wh ++ [-1 - (es.length : Int)], va, ty, ess, le, ri, go⟩ es hg H' gt tc (x0 :: x1 :: x2 :: r))
              case first =>
                rename_i J K' hJ hK'
                exact wp_weak (reg23 w wc F g lab L (hy ++ [x0]) (wh) (va) (ty) (ess) (le) (ri) (go) es hg H gt tc nw (x0 :: x1 :: x2 :: r) (by omega) (by omega) (by omega) S _ _ _ _ _ _ _ _ _ _ _ _ _ _ _ _ _ _ _ _ _ _ _ _ _ _ _ _ _ _ _ _ _ _ _ _ _ _ _ _ _ _ _ _ _ _ _ _ _ _ _ _ _ _ _ _ _ _ _ _ _ _ _ _ _ _ _ _ _ _ _ _ _ _ _ _ _ _ _ _ _ _ _ _ _ _ _ _ _ _ _ _ _ _ _ _ _ _ _ _ _ _ _ _ _ _ _ _ _ _ _ _ _ _ _ _ _ _ _ _ _ _ _ _ _ _ _ _ _ _ _ _ _ _ _ _ _ _ _ _ _ _ _ _ _ _ _ _ _ _ _ _ _ _ _ _ _ _ _ _ _ _ _ _ _ _ _ _ _ _ _ _ _ _ _ _ _ _ _ _ _ _ _ _ _ _ _ _ _ _ _ _ _ _ _ _ _ _ _ _ _ _ _ _ _ _ _ _ _ _ _ _ _ _ _ _ _ _ _ _ J K' hJ hK')
              case rest =>
                clear S
                obtain ⟨H2, S2⟩ := hcut
                obtain ⟨H, S, -⟩ : ∃ H, Hid (FmSt w wc F g lab L ⟨hy ++ [x0], wh ++ [-1 - (es.length : Int)], va, ty, ess, le, ri, go⟩ es hg H gt tc (x0 :: x1 :: x2 :: r)) ∧ True := ⟨H2, S2, trivial⟩
                clear S2
                go_upto_region 24 with fail
                go_cut [11] from 173 to 180 (fun s11 wd => ∃ (g5 cap5 : Nat) (v0 : Value), s11 = .slice (some ⟨g5, 0, none⟩) (es.length + 1) cap5 ∧ wd.cell? ⟨F, 6, none⟩ = some v0 ∧ wd.frozen? ⟨F, 6, none⟩ = false ∧ F < wd.heap.size ∧ ∃ H', Hid (FmSt w (wd.setCell ⟨F, 6, none⟩ (.slice (some ⟨g5, 0, none⟩) (es.length + 1) cap5)) F g lab L ⟨hy ++ [x0], wh ++ [-1 - (es.length : Int)], va, ty, ess ++ [x2 :: r], le, ri, go⟩ (es ++ [tailW gt tc (x2 :: r)]) hg H' gt tc (x0 :: x1 :: x2 :: r)))
                case first =>
                  rename_i J K' hJ hK'
                  exact wp_weak (reg24 w wc F g lab L (hy ++ [x0]) (wh ++ [-1 - (es.length : Int)]) (va) (ty) (ess) (le) (ri) (go) es hg H gt tc nw (x0 :: x1 :: x2 :: r) (x2 :: r) rfl (by rw [← HNW.out]; simp) hnw htc hnb htm (by omega) S _ _ _ _ _ _ _ _ _ _ _ _ _ _ _ _ _ _ _ _ _ _ _ _ _ _ _ _ _ _ _ _ _ _ _ _ _ _ _ _ _ _ _ _ _ _ _ _ _ _ _ _ _ _ _ _ _ _ _ _ _ _ _ _ _ _ _ _ _ _ _ _ _ _ _ _ _ _ _ _ _ _ _ _ _ _ _ _ _ _ _ _ _ _ _ _ _ _ _ _ _ _ _ _ _ _ _ _ _ _ _ _ _ _ _ _ _ _ _ _ _ _ _ _ _ _ _ _ _ _ _ _ _ _ _ _ _ _ _ _ _ _ _ _ _ _ _ _ _ _ _ _ _ _ _ _ _ _ _ _ _ _ _ _ _ _ _ _ _ _ _ _ _ _ _ _ _ _ _ _ _ _ _ _ _ _ _ _ _ _ _ _ _ _ _ _ _ _ _ _ _ _ _ _ _ _ _ _ _ _ _ _ _ _ _ _ _ _ _ _ J K' hJ hK')
                case rest =>
                  clear S
                  obtain ⟨g5, cap5, v0, rfl, k5, f5, hz5, H', HS⟩ := hcut
                  go_wp2_with fail
                  go_roundg (L.length - (k + 1))
                  case measure => omega
                  case rel => exact ⟨k + 1, es ++ [tailW gt tc (x2 :: r)], hg, H', by omega, rfl, by go_num, by rw [HT.out]; exact HS.out.fm, HS.out.lns, HS.out.gf, HS.out.kept⟩

        · have hn4 : nw = 4 := by
            rcases HW2.out with h | ⟨h, _⟩
            · exact h.2
            · rw [hf] at h; cases h
          obtain ⟨x3, hr3⟩ : ∃ x3, r = [x3] := by
            have := HNW.out
            simp at this
            match r, this with
            | [y], _ => exact ⟨y, rfl⟩
            | [], h => simp at h; omega
            | _ :: _ :: _, h => simp at h; omega
          subst hr3
          have HTT : Hid (formTo L (k + 1) = ⟨hy ++ [x0], wh ++ [(va.length : Int)], va ++ [x3], ty ++ [x2], ess, le, ri, go⟩) := by
            show _ = _
            rw [HT.out]
            unfold stepF
            rw [if_neg (by show ¬ (x0.toList == [36, 100]) = true; rw [hd]; simp), if_pos ⟨hf, rfl⟩]
            rfl
          have hn4i : ((nw : Int) == 4) = true := by rw [hn4]; rfl
          have hq4 : 3 < nw := by omega
          clear hn4
          clear HT HW2
          have HT := HTT
          clear HTT
          go_upto_region 17 with fail
          go_cut [] from 91 to 102 (fun wd => ∃ H', FmSt w wd F g lab L ⟨hy ++ [x0], wh, va, ty, ess, le, ri, go⟩ es hg H' gt tc [x0, x1, x2, x3])
          case first =>
            rename_i J K' hJ hK'
            exact wp_weak (reg17 w wc F g lab L (hy) (wh) (va) (ty) (ess) (le) (ri) (go) es hg H gt tc nw [x0, x1, x2, x3] x0 rfl (by omega) (by omega) S _ _ _ _ _ _ _ _ _ _ _ _ _ _ _ _ _ _ _ _ _ _ _ _ _ _ _ _ _ _ _ _ _ _ _ _ _ _ _ _ _ _ _ _ _ _ _ _ _ _ _ _ _ _ _ _ _ _ _ _ _ _ _ _ _ _ _ _ _ _ _ _ _ _ _ _ _ _ _ _ _ _ _ _ _ _ _ _ _ _ _ _ _ _ _ _ _ _ _ _ _ _ _ _ _ _ _ _ _ _ _ _ _ _ _ _ _ _ _ _ _ _ _ _ _ _ _ _ _ _ _ _ _ _ _ _ _ _ _ _ _ _ _ _ _ _ _ _ _ _ _ _ _ _ _ _ _ _ _ _ _ _ _ _ _ _ _ _ _ _ _ _ _ _ _ _ _ _ _ _ _ _ _ _ _ _ _ _ _ _ _ _ _ _ _ _ _ _ _ _ _ _ _ _ _ _ _ _ _ _ _ _ _ _ _ _ _ _ _ _ J K' hJ hK')
          case rest =>
            clear S
            obtain ⟨H2, S2⟩ := hcut
            obtain ⟨H, S, -⟩ : ∃ H, Hid (FmSt w wc F g lab L ⟨hy ++ [x0], wh, va, ty, ess, le, ri, go⟩ es hg H gt tc [x0, x1, x2, x3]) ∧ True := ⟨H2, S2, trivial⟩
            clear S2
            go_upto_region 18 with fail
            go_cut [] from 103 to 116 (fun wd => ∃ H', FmSt w wd F g lab L ⟨hy ++ [x0], wh ++ [(va.length : Int)], va, ty, ess, le, ri, go⟩ es hg H' gt tc [x0, x1, x2, x3])
            case first =>
              rename_i J K' hJ hK'
              exact wp_weak (reg18 w wc F g lab L (hy ++ [x0]) (wh) (va) (ty) (ess) (le) (ri) (go) es hg H gt tc nw [x0, x1, x2, x3] (by omega) (by omega) (by omega) S _ _ _ _ _ _ _ _ _ _ _ _ _ _ _ _ _ _ _ _ _ _ _ _ _ _ _ _ _ _ _ _ _ _ _ _ _ _ _ _ _ _ _ _ _ _ _ _ _ _ _ _ _ _ _ _ _ _ _ _ _ _ _ _ _ _ _ _ _ _ _ _ _ _ _ _ _ _ _ _ _ _ _ _ _ _ _ _ _ _ _ _ _ _ _ _ _ _ _ _ _ _ _ _ _ _ _ _ _ _ _ _ _ _ _ _ _ _ _ _ _ _ _ _ _ _ _ _ _ _ _ _ _ _ _ _ _ _ _ _ _ _ _ _ _ _ _ _ _ _ _ _ _ _ _ _ _ _ _ _ _ _ _ _ _ _ _ _ _ _ _ _ _ _ _ _ _ _ _ _ _ _ _ _ _ _ _ _ _ _ _ _ _ _ _ _ _ _ _ _ _ _ _ _ _ _ _ _ _ _ _ _ _ _ _ _ _ _ _ _ J K' hJ hK')
            case rest =>
              clear S
              obtain ⟨H2, S2⟩ := hcut
              obtain ⟨H, S, -⟩ : ∃ H, Hid (FmSt w wc F g lab L ⟨hy ++ [x0], wh ++ [(va.length : Int)], va, ty, ess, le, ri, go⟩ es hg H gt tc [x0, x1, x2, x3]) ∧ True := ⟨H2, S2, trivial⟩
              clear S2
              go_upto_region 19 with fail
              go_cut [] from 117 to 128 (fun wd => ∃ H', FmSt w wd F g lab L ⟨hy ++ [x0], wh ++ [(va.length : Int)], va, ty ++ [x2], ess, le, ri, go⟩ es hg H' gt tc [x0, x1, x2, x3])
              case first =>
                rename_i J K' hJ hK'
                exact wp_weak (reg19 w wc F g lab L (hy ++ [x0]) (wh ++ [(va.length : Int)]) (va) (ty) (ess) (le) (ri) (go) es hg H gt tc nw [x0, x1, x2, x3] x2 rfl (by omega) (by omega) S _ _ _ _ _ _ _ _ _ _ _ _ _ _ _ _ _ _ _ _ _ _ _ _ _ _ _ _ _ _ _ _ _ _ _ _ _ _ _ _ _ _ _ _ _ _ _ _ _ _ _ _ _ _ _ _ _ _ _ _ _ _ _ _ _ _ _ _ _ _ _ _ _ _ _ _ _ _ _ _ _ _ _ _ _ _ _ _ _ _ _ _ _ _ _ _ _ _ _ _ _ _ _ _ _ _ _ _ _ _ _ _ _ _ _ _ _ _ _ _ _ _ _ _ _ _ _ _ _ _ _ _ _ _ _ _ _ _ _ _ _ _ _ _ _ _ _ _ _ _ _ _ _ _ _ _ _ _ _ _ _ _ _ _ _ _ _ _ _ _ _ _ _ _ _ _ _ _ _ _ _ _ _ _ _ _ _ _ _ _ _ _ _ _ _ _ _ _ _ _ _ _ _ _ _ _ _ _ _ _ _ _ _ _ _ _ _ _ _ _ J K' hJ hK')
              case rest =>
                clear S
                obtain ⟨H2, S2⟩ := hcut
                obtain ⟨H, S, -⟩ : ∃ H, Hid (FmSt w wc F g lab L ⟨hy ++ [x0], wh ++ [(va.length : Int)], va, ty ++ [x2], ess, le, ri, go⟩ es hg H gt tc [x0, x1, x2, x3]) ∧ True := ⟨H2, S2, trivial⟩
                clear S2
                go_upto_region 20 with fail
                refine wp_strong (reg20 w wc F g lab L (hy ++ [x0]) (wh ++ [(va.length : Int)]) (va) (ty ++ [x2]) (ess) (le) (ri) (go) es hg H gt tc nw [x0, x1, x2, x3] x3 rfl (by omega) (by omega) S _ _ _ _ _ _ _ _ _ _ _ _ _ _ _ _ _ _ _ _ _ _ _ _ _ _ _ _ _ _ _ _ _ _ _ _ _ _ _ _ _ _ _ _ _ _ _ _ _ _ _ _ _ _ _ _ _ _ _ _ _ _ _ _ _ _ _ _ _ _ _ _ _ _ _ _ _ _ _ _ _ _ _ _ _ _ _ _ _ _ _ _ _ _ _ _ _ _ _ _ _ _ _ _ _ _ _ _ _ _ _ _ _ _ _ _ _ _ _ _ _ _ _ _ _ _ _ _ _ _ _ _ _ _ _ _ _ _ _ _ _ _ _ _ _ _ _ _ _ _ _ _ _ _ _ _ _ _ _ _ _ _ _ _ _ _ _ _ _ _ _ _ _ _ _ _ _ _ _ _ _ _ _ _ _ _ _ _ _ _ _ _ _ _ _ _ _ _ _ _ _ _ _ _ _ _ _ _ _ _ _ _ _ _ _ _ _ _ _ _ _ _ (fun _ _ q => q) (fun _ _ q => q)) ?_
                rintro a' w' ⟨v129, v130, v131, v132, v133, v134, v135, v136, v137, v138, v139, v140, ⟨H2, S2⟩, rfl⟩
                go_wp2_with fail
                go_roundg (L.length - (k + 1))
                case measure => omega
                case rel => exact ⟨k + 1, es, hg, H2, by omega, rfl, by go_num, by rw [HT.out]; exact S2.fm, S2.lns, S2.gf, S2.kept⟩

      · have HTT : Hid (formTo L (k + 1) = ⟨hy, wh, va, ty, ess, le ++ [x1], ri ++ [x2], go⟩) := by
          show _ = _
          rw [HT.out]
          unfold stepF
          rw [if_pos (by exact hd)]
          rfl
        clear HT
        have HT := HTT
        clear HTT
        go_upto_region 14 with fail
        go_cut [] from 57 to 68 (fun wd => ∃ H', FmSt w wd F g lab L ⟨hy, wh, va, ty, ess, le ++ [x1], ri, go⟩ es hg H' gt tc (x0 :: x1 :: x2 :: r))
        case first =>
          rename_i J K' hJ hK'
          exact wp_weak (reg14 w wc F g lab L (hy) (wh) (va) (ty) (ess) (le) (ri) (go) es hg H gt tc nw (x0 :: x1 :: x2 :: r) x1 rfl (by omega) (by omega) S _ _ _ _ _ _ _ _ _ _ _ _ _ _ _ _ _ _ _ _ _ _ _ _ _ _ _ _ _ _ _ _ _ _ _ _ _ _ _ _ _ _ _ _ _ _ _ _ _ _ _ _ _ _ _ _ _ _ _ _ _ _ _ _ _ _ _ _ _ _ _ _ _ _ _ _ _ _ _ _ _ _ _ _ _ _ _ _ _ _ _ _ _ _ _ _ _ _ _ _ _ _ _ _ _ _ _ _ _ _ _ _ _ _ _ _ _ _ _ _ _ _ _ _ _ _ _ _ _ _ _ _ _ _ _ _ _ _ _ _ _ _ _ _ _ _ _ _ _ _ _ _ _ _ _ _ _ _ _ _ _ _ _ _ _ _ _ _ _ _ _ _ _ _ _ _ _ _ _ _ _ _ _ _ _ _ _ _ _ _ _ _ _ _ _ _ _ _ _ _ _ _ _ _ _ _ _ _ _ _ _ _ _ _ _ _ _ _ _ _ J K' hJ hK')
        case rest =>
          clear S
          obtain ⟨H2, S2⟩ := hcut
          obtain ⟨H, S, -⟩ : ∃ H, Hid (FmSt w wc F g lab L ⟨hy, wh, va, ty, ess, le ++ [x1], ri, go⟩ es hg H gt tc (x0 :: x1 :: x2 :: r)) ∧ True := ⟨H2, S2, trivial⟩
          clear S2
          go_upto_region 15 with fail
          refine wp_strong (reg15 w wc F g lab L (hy) (wh) (va) (ty) (ess) (le ++ [x1]) (ri) (go) es hg H gt tc nw (x0 :: x1 :: x2 :: r) x2 rfl (by omega) (by omega) S _ _ _ _ _ _ _ _ _ _ _ _ _ _ _ _ _ _ _ _ _ _ _ _ _ _ _ _ _ _ _ _ _ _ _ _ _ _ _ _ _ _ _ _ _ _ _ _ _ _ _ _ _ _ _ _ _ _ _ _ _ _ _ _ _ _ _ _ _ _ _ _ _ _ _ _ _ _ _ _ _ _ _ _ _ _ _ _ _ _ _ _ _ _ _ _ _ _ _ _ _ _ _ _ _ _ _ _ _ _ _ _ _ _ _ _ _ _ _ _ _ _ _ _ _ _ _ _ _ _ _ _ _ _ _ _ _ _ _ _ _ _ _ _ _ _ _ _ _ _ _ _ _ _ _ _ _ _ _ _ _ _ _ _ _ _ _ _ _ _ _ _ _ _ _ _ _ _ _ _ _ _ _ _ _ _ _ _ _ _ _ _ _ _ _ _ _ _ _ _ _ _ _ _ _ _ _ _ _ _ _ _ _ _ _ _ _ _ _ _ _ _ (fun _ _ q => q) (fun _ _ q => q)) ?_
          rintro a' w' ⟨v69, v70, v71, v72, v73, v74, v75, v76, v77, v78, v79, v80, ⟨H2, S2⟩, rfl⟩
          go_wp2_with fail
          go_roundg (L.length - (k + 1))
          case measure => omega
          case rel => exact ⟨k + 1, es, hg, H2, by omega, rfl, by go_num, by rw [HT.out]; exact S2.fm, S2.lns, S2.gf, S2.kept⟩

    · have e : k = L.length := by omega
      subst e
      have HGO : Hid (FmIs wr F w.heap.size lab (.slice (some ⟨g, 0, none⟩) L.length L.length) (formF L) es hg H) := hFm
      have hg0 := hgo.out
      have cF := HGO.out.bag.cell 9
      have hFl := HGO.out.bag.lt
      simp only [fmL, List.getElem?_cons_succ, List.getElem?_cons_zero] at cF
      have hgi : ((formF L).goal.length : Int) > 0 := by omega
      clear hFm
      go_wp2_with fail
      go_region
      all_goals go_wp2
      all_goals go_ret2
      all_goals exact ⟨F, g, es, hg, H, rfl, HGO.out.still (Kept.refl [] _).drew, hLn.kept (Kept.refl [] _).drew (by simp), hGf, hK.drew⟩

end Go.Proofs.YtcipkfhpcbddiaaGreat
