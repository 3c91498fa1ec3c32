/- Our texts: Pl9. -/
import Derived.Test.YtkancbaldeeijaaGreatG23
/- Package player: apply. -/
namespace Go.Proofs.YtkancbaldeeijaaGreat
open Go.RowKit

theorem build_sub (w : World) : (Instr.build 176 #[]).run Tryz.prog w = .ok (.agg #[.slice none 0 0, .slice none 0 0]) w :=
  run_build w 176 _ _ (by kernel_rfl)
attribute [local go_sem] build_sub field_syms

theorem FarV.turned {w w' : World} {b : Nat} {H H' : Nat → Hd} {h : Hd} {l : List ByteArray} (f : FarV w b H h l) (t : Turned b w H w' H') : FarV w' b H' h l := by
  refine ⟨f.view.keptP t.1 (fun x hx => ?_), fun x hx => ?_⟩
  · obtain ⟨_, h2, h3⟩ := f.far x hx
    rintro (e | e)
    · exact h2 e
    · exact h3 e
  · obtain ⟨h1, h2, h3⟩ := f.far x hx
    exact ⟨Nat.lt_of_lt_of_le h1 t.1.size, h2, t.fresh x h1 h3⟩
theorem BagIs.reset {w : World} {b t : Nat} {cs : List Value} {rows rows' : Nat → Row} {H : Nat → Hd} (h : BagIs w b t cs rows H) (c : Nat) (u : Value) (o : ∀ i, Owns w (H i) (rows' i)) :
    BagIs (w.setCell ⟨b, c, none⟩ u) b t (cs.set c u) rows' H ∧ Turned b w H (w.setCell ⟨b, c, none⟩ u) H := by
  obtain ⟨h1, h2⟩ := h.set c u
  refine ⟨⟨h1.blk, fun i => (o i).moved (fun k hk => Below.heap_setCell _ _ _ _ ?_), h.apart, h.off⟩, h2⟩
  rintro rfl
  exact h.off i hk

theorem far_none (w : World) (b : Nat) (H : Nat → Hd) : FarV w b H ⟨none, 0⟩ [] := ⟨Or.inl rfl, fun x hx => by simp [Hd.blk] at hx⟩

set_option maxHeartbeats 3000000 in
set_option maxRecDepth 100000 in
theorem apply_any (w0 w : World) (b rb ro g tb nn : Nat) (l : List St) (HR K : Nat → Hd) (vs : List ByteArray) (ms : List Bool) (hv hm : Hd) (sh th : List Ex) (H : Nat → Hd) (E : PEnv w0 rb ro g tb l HR K vs ms hv hm) (P : Plays w0 w b rb ro g l.length tb sh th H)
    (hn : nn < l.length) (hA : isAt l nn = true) (hth : th.length ≤ 2000000) :
    Calls Tryz.prog 109 #[.pointer (some ⟨b, 0, none⟩), .int .i64 nn] w fun e w' => ∃ (th' : List Ex) (ex : Ex),
      e = .returned (.tuple #[.slice ex.hd.ao ex.xs.length ex.hd.cap, .int .i64 (applyF l nn vs ms (th.map Ex.xs)).1]) ∧ ex.xs = (applyF l nn vs ms (th.map Ex.xs)).2 ∧ Plays w0 w' b rb ro g l.length tb sh th' H ∧ FarV w' b H ex.hd ex.xs ∧
      (((applyF l nn vs ms (th.map Ex.xs)).1 == 0) = true → th' = th.take (th.length - (hypsF l nn).length)) ∧ th'.length ≤ th.length := by
  have Ew := E.still P.kept
  have hlen := E.ok.len
  obtain ⟨p0, p1, p2⟩ := P.ply.ctx.cells
  obtain ⟨p3, p4⟩ := P.ply.cells
  have hyA : hypsA l l.length nn = hypsF l nn := by unfold hypsA; rw [if_pos ⟨hn, hA⟩]
  have ca := Ew.all.cell nn hn
  have oa := Ew.all.own nn hn
  rw [hyA] at ca oa
  obtain ⟨AO, HAO⟩ : ∃ AO, Hid ((K nn).ao = AO) := ⟨_, rfl⟩
  rw [HAO.out] at ca
  have hhl : (hypsF l nn).length ≤ l.length := hypsTo_len l nn l.length
  have hhlt : ∀ i (hi : i < (hypsF l nn).length), (hypsF l nn)[i] < l.length := fun i hi => hypsF_lt (List.getElem_mem hi)
  have hgn : (nn : Int) < l.length := by omega
  have hgnn : ¬ (nn : Int) ≥ l.length := by omega
  clear hyA p2 p3
  by_cases hu : th.length < (hypsF l nn).length
  · have HF : Hid (applyF l nn vs ms (th.map Ex.xs) = (6, [])) := by show _ = _; unfold applyF; rw [List.length_map, if_pos hu]
    have hneg : (th.length : Int) - (hypsF l nn).length < 0 := by omega
    go_enter Tryz.func109, Tryz.ntmps109
    go_wp2
    exact bodyPost_ret (v := .tuple #[.slice none 0 0, .int .i64 6]) (by simp [results, Tryz.results109, go_sem]) rfl
      ⟨th, ⟨⟨none, 0⟩, []⟩, by rw [HF.out]; rfl, by rw [HF.out], P, far_none _ _ _, by rw [HF.out]; simp, Nat.le_refl _⟩
  · obtain ⟨f, hf⟩ : ∃ f, th.length - (hypsF l nn).length = f := ⟨_, rfl⟩
    have hfi : (th.length : Int) - (hypsF l nn).length = (f : Int) := by omega
    have hf0 : ¬ (f : Int) < 0 := by omega
    obtain ⟨RR, HRR⟩ : ∃ RR, Hid (RR = fitAll l (hypsF l nn) ((th.map Ex.xs).drop f) ([], [])) := ⟨_, rfl⟩
    have HF : Hid (applyF l nn vs ms (th.map Ex.xs) = applyR l nn vs ms l[nn].symbols RR) := by
      show _ = _
      unfold applyF
      rw [List.length_map, if_neg hu, getD_st l nn hn, hf, HRR.out]
    rw [hf]
    have hft : f + (hypsF l nn).length = th.length := by omega
    have HFT := (show Hid _ from hft)
    clear hf hft
    obtain ⟨W, hW⟩ : ∃ W, W = w.alloc (.cells #[.slice none 0 0, .slice none 0 0] 176) := ⟨_, rfl⟩
    have kW : Kept [] w W := by rw [hW]; exact (Kept.refl [] _).alloc _
    have SI : SubIs W w.heap.size [] [] noHd := by
      rw [hW]
      refine ⟨⟨heap_alloc_new _ _, ?_, fun i j _ => Or.inl rfl, fun i e => by simp [noHd, Hd.blk] at e⟩, rfl, by simp⟩
      intro i
      match i with
      | 0 => exact World.ownsRow_nil _ _ _ _
      | 1 => exact World.ownsRow_nil _ _ _ _
      | m + 2 => exact World.ownsRow_nil _ _ _ _
    have HW := (show Hid _ from hW.symm)
    clear hW
    go_enter Tryz.func109, Tryz.ntmps109
    go_upto_region 8 with fail
    rw [HW.out]
    have PW := P.still kW
    clear HW p0 p1 p4 ca
    go_wp2
    go_loopg [9] (hypsF l nn).length (fun gk iv wr => ∃ (i : Nat) (S : Sbs) (be : List Ex) (Hs : Nat → Hd), i ≤ (hypsF l nn).length ∧ gk = (hypsF l nn).length - i ∧ iv = .int .i64 i ∧ SbsOk S i ∧ be.map Ex.xs = S.2 ∧ Hid (RR = fitAll l ((hypsF l nn).drop i) (((th.map Ex.xs).drop f).drop i) S) ∧ SubIs wr w.heap.size S.1 be Hs ∧ (∀ x, InH Hs x → w.heap.size ≤ x) ∧ (∀ e ∈ be, e.hd.blk ≠ some b) ∧ Kept [] w wr)
    case atStart => exact ⟨0, ([], []), [], noHd, by omega, by omega, rfl, ⟨by simp, by simp⟩, rfl, HRR.out, SI, fun x hx => by obtain ⟨i, hi⟩ := hx; simp [noHd, Hd.blk] at hi, by simp, kW⟩
    case round =>
      obtain ⟨i, S, be, Hs, hi, hg, rfl, hSo, hbe, hR, hS, hNs, hbn, hK⟩ := hrel
      by_cases hlt : i < (hypsF l nn).length
      · obtain ⟨us, S2⟩ := S
        simp only at hbe
        subst hbe
        have Pr := P.still hK
        have hfl : f + i < th.length := by have := HFT.out; omega
        have oT : Owns wr (H 1) (rowE th) := Pr.ply.bag.own 1
        rcases oT.ways with ⟨_, h0, _⟩ | ⟨gt, curt, et, -, et3, -⟩
        · have : th.length = 0 := h0
          omega
        have oH : Owns wr (K nn) (rowN (hypsF l nn)) := oa.moved (fun x hx => hK.block x (oa.lt hx) (by simp))
        rcases oH.ways with ⟨_, h0, _⟩ | ⟨gh, curh, eh, -, eh3, -⟩
        · have : (hypsF l nn).length = 0 := h0
          omega
        have ch := oH.cell eh i (.int .i64 (hypsF l nn)[i]) (nums_at _ i hlt)
        have ct := oT.cell et (f + i) (exV th[f + i]) (exsV_at th (f + i) hfl)
        obtain rfl : AO = some ⟨gh, 0, none⟩ := HAO.out.symm.trans eh
        have hcpt : th.length ≤ (H 1).cap := et3
        have hcph : (hypsF l nn).length ≤ (K nn).cap := eh3
        have hfar := (P.ply.ths th[f + i] (List.getElem_mem hfl))
        have hhx := hhlt i hlt
        have HFA := (show Hid _ from hR.out.trans (fitAll_at l (hypsF l nn) ((th.map Ex.xs).drop f) (us, be.map Ex.xs) i hlt (by simp; omega) hhx))
        have e1 : ((th.map Ex.xs).drop f)[i]'(by simp; omega) = th[f + i].xs := by simp
        rw [e1] at HFA
        have FOK := fitF_ok l[(hypsF l nn)[i]] th[f + i].xs (us, be.map Ex.xs) i hSo (by omega)
        have FT := fun (w3 : World) (k3 : Kept [] wr w3) => fit_any w.heap.size us be Hs l[(hypsF l nn)[i]] (HR (10 + 2 * (hypsF l nn)[i])) (HR (11 + 2 * (hypsF l nn)[i])) th[f + i].hd th[f + i].xs w3 (hS.still k3) (by have := hSo.one; simp only at this; omega) (fun e he => hSo.two _ (List.mem_map_of_mem he)) ((((E.still (Pr.kept.trans k3)).recd.sts.syms _ l[(hypsF l nn)[i]] (List.getElem?_eq_getElem hhx)).view)) (E.ok.syms _ hhx) ⟨(hfar.1.still (hK.trans k3)).view, fun x hx => ⟨Nat.lt_of_lt_of_le (hfar.1.far x hx).1 (hK.trans k3).size, by have := (hfar.1.far x hx).1; omega, fun hm => by have := hNs x hm; have := (hfar.1.far x hx).1; omega⟩⟩ (by omega)
        have ST := fun (w3 : World) (k3 : Kept [] wr w3) => statement_any rb ro (hypsF l nn)[i] l HR w3 (E.still (Pr.kept.trans k3)).recd hhx
        have p4 := Pr.ply.cells.2
        have p0 := Pr.ply.ctx.cells.1
        rw [et] at p4
        have HPC : Hid (∀ w', Kept [] w w' → w'.cell? ⟨b, 0, none⟩ = some (.pointer (some ⟨rb, ro, none⟩)) ∧ w'.cell? ⟨gh, i, none⟩ = some (.int .i64 (hypsF l nn)[i]) ∧ w'.cell? ⟨b, 4, none⟩ = some (.slice (some ⟨gt, 0, none⟩) th.length (H 1).cap) ∧ w'.cell? ⟨gt, f + i, none⟩ = some (exV th[f + i])) := by
          intro w' k
          have P' := P.still k
          refine ⟨P'.ply.ctx.cells.1, (oa.moved (fun x hx => k.block x (oa.lt hx) (by simp))).cell eh i _ (nums_at _ i hlt), ?_, (P'.ply.bag.own 1).cell et (f + i) (exV th[f + i]) (exsV_at th (f + i) hfl)⟩
          rw [← et]; exact P'.ply.cells.2
        have HP9 : Hid (∀ x, (x = w.heap.size ∨ InH Hs x) → w.heap.size ≤ x) := by
          rintro x (e | e)
          · omega
          · exact hNs x e
        have HFT2 := (show Hid _ from FT)
        have HST := (show Hid _ from ST)
        have hwrp : IntKind.i64.wrap ((f : Int) + i) = (f : Int) + i := by rw [IntKind.wrap_i64]; omega
        have hfi0 : (0 : Int) ≤ (f : Int) + i := by omega
        have hfi1 : (f : Int) + i < th.length := by omega
        have hti : ((f : Int) + i).toNat = f + i := by omega
        have hfar2 := hfar.1.far
        clear FT ST hR e1 oT oH hfar et eh
        unfold exV at ct HPC
        generalize th[f + i] = ex at *
        generalize (hypsF l nn)[i] = hn1 at *
        generalize fitF l[hn1] ex.xs (us, be.map Ex.xs) = Q at *
        obtain ⟨q, S9⟩ := Q
        simp only at HFA FOK HFT2
        have hfb : ex.hd.blk ≠ some b := fun e => (hfar2 b e).2.1 rfl
        cases hq : (q == 0)
        · have hq' : (q != 0) = true := by simp [bne, hq]
          have HN : Hid (applyF l nn vs ms (th.map Ex.xs) = (q, [])) := by show _ = _; rw [HF.out, HFA.out, if_neg (by rw [hq]; simp)]; simp [applyR, hq]
          clear HFA
          go_upto_region 11 with fail
          go_region_held3 (fun w' => w'.cell? ⟨b, 0, none⟩ = some (.pointer (some ⟨rb, ro, none⟩)) ∧ w'.cell? ⟨gh, i, none⟩ = some (.int .i64 hn1) ∧ w'.cell? ⟨b, 4, none⟩ = some (.slice (some ⟨gt, 0, none⟩) th.length (H 1).cap) ∧ w'.cell? ⟨gt, f + i, none⟩ = some (.slice ex.hd.ao ex.xs.length ex.hd.cap)) (go_keep) (first | (go_at_call 43; refine (HST.out _ (by exact (Kept.refl [] _).drew)).mono ?_; rintro e w3 ⟨rfl, k3⟩; obtain ⟨x0, x1, x2, x3⟩ := HPC.out w3 (hK.drew.trans k3)) | (go_at_call 123; refine (HFT2.out _ (by exact (Kept.refl [] _).drew.trans k3)).mono ?_; rintro e w9 ⟨be9, H9, rfl, SI9, hbe9, T9, hmem9⟩; have K9 := (hK.drew.trans k3).ofP T9.1 HP9.out; obtain ⟨z0, z1, z2, z3⟩ := HPC.out w9 K9))
          all_goals
            clear z0 z1 z2 z3 x0 x1 x2 x3
            go_wp2
            exact bodyPost_ret (v := .tuple #[.slice none 0 0, .int .i64 q]) (by simp [results, Tryz.results109, go_sem]) rfl
              ⟨th, ⟨⟨none, 0⟩, []⟩, by rw [HN.out]; rfl, by rw [HN.out], P.still K9, far_none _ _ _, fun hh => by rw [HN.out] at hh; exact absurd (hq.symm.trans hh) (by simp), Nat.le_refl _⟩
        · have hq' : (q != 0) = false := by simp [bne, hq]
          have HN : Hid (RR = fitAll l ((hypsF l nn).drop (i + 1)) (((th.map Ex.xs).drop f).drop (i + 1)) S9) := by show _ = _; rw [HFA.out, if_pos hq]
          clear HFA
          go_upto_region 11 with fail
          go_region_held3 (fun w' => w'.cell? ⟨b, 0, none⟩ = some (.pointer (some ⟨rb, ro, none⟩)) ∧ w'.cell? ⟨gh, i, none⟩ = some (.int .i64 hn1) ∧ w'.cell? ⟨b, 4, none⟩ = some (.slice (some ⟨gt, 0, none⟩) th.length (H 1).cap) ∧ w'.cell? ⟨gt, f + i, none⟩ = some (.slice ex.hd.ao ex.xs.length ex.hd.cap)) (go_keep) (first | (go_at_call 43; refine (HST.out _ (by exact (Kept.refl [] _).drew)).mono ?_; rintro e w3 ⟨rfl, k3⟩; obtain ⟨x0, x1, x2, x3⟩ := HPC.out w3 (hK.drew.trans k3)) | (go_at_call 123; refine (HFT2.out _ (by exact (Kept.refl [] _).drew.trans k3)).mono ?_; rintro e w9 ⟨be9, H9, rfl, SI9, hbe9, T9, hmem9⟩; have K9 := (hK.drew.trans k3).ofP T9.1 HP9.out; obtain ⟨z0, z1, z2, z3⟩ := HPC.out w9 K9))
          all_goals
            have hN9 : ∀ x, InH H9 x → w.heap.size ≤ x := fun x hx => by
              rcases T9.2 x hx with e | e
              · exact hNs x e
              · exact Nat.le_trans (hK.drew.trans k3).size e
            have hb9 : ∀ e ∈ be9, e.hd.blk ≠ some b := fun e he => by
              rcases hmem9 e he with q | q
              · exact hbn e q
              · rw [q]; exact hfb
            clear z0 z1 z2 z3 x0 x1 x2 x3
            go_wp2
            go_roundg ((hypsF l nn).length - (i + 1))
            case measure => omega
            case rel => exact ⟨i + 1, S9, be9, H9, by omega, rfl, by go_num, FOK, hbe9, HN.out, SI9, hN9, hb9, K9⟩
      · obtain ⟨us, S2⟩ := S
        simp only at hbe
        subst hbe
        have HFE : Hid (applyF l nn vs ms (th.map Ex.xs) = applyR l nn vs ms l[nn].symbols (0, (us, be.map Ex.xs))) := by
          show _ = _
          rw [HF.out, hR.out, fitAll_end _ _ _ _ _ hlt]
        have Pr := P.still hK
        have Er := E.still Pr.kept
        have hul := hSo.one
        simp only at hul
        have KA := keepsApart_any b rb ro g l.length tb nn w.heap.size l HR vs ms hv hm us be Hs wr Pr.ply.ctx Er.ap E.hml E.hvl Er.recd E.ok hS (by omega) (fun e he => hSo.two _ (List.mem_map_of_mem he))
        clear hR
        cases hk : keepF l nn (us, be.map Ex.xs) vs ms
        · have HN : Hid (applyF l nn vs ms (th.map Ex.xs) = (9, [])) := by show _ = _; rw [HFE.out]; simp [applyR, hk]
          rw [hk] at KA
          clear HFE
          go_upto_region 15 with (go_at_call 124; refine KA.mono ?_; rintro e w2 ⟨rfl, k2⟩)
          go_wp2
          exact bodyPost_ret (v := .tuple #[.slice none 0 0, .int .i64 9]) (by simp [results, Tryz.results109, go_sem]) rfl
            ⟨th, ⟨⟨none, 0⟩, []⟩, by rw [HN.out]; rfl, by rw [HN.out], Pr.still k2, far_none _ _ _, by rw [HN.out]; simp, Nat.le_refl _⟩
        · have HN : Hid (applyF l nn vs ms (th.map Ex.xs) = (0, replF us (be.map Ex.xs) l[nn].symbols)) := by show _ = _; rw [HFE.out]; simp [applyR, hk]
          rw [hk] at KA
          clear HFE
          go_upto_region 16 with (go_at_call 124; refine KA.mono ?_; rintro e w2 ⟨rfl, k2⟩)
          have P2 := Pr.still k2
          have S2' := hS.still k2
          have p4 := P2.ply.cells.2
          have y4 := P2.ply.bag.free
          have hb2 := P2.ply.bag.lt
          have oT : Owns w2 (H 1) (rowE th) := P2.ply.bag.own 1
          have hfth : f ≤ th.length := by have := HFT.out; omega
          have hfi2 : (f : Int) ≤ th.length := by omega
          have hPb : w.heap.size > b := P.ply.bag.lt
          rcases oT.ways with ⟨e0, h0, -⟩ | ⟨gt, curt, et, -, et3, -⟩
          · have h0' : th.length = 0 := h0
            have hf00 : f = 0 := by omega
            have HQX : Hid (Value.slice none 0 0 = Value.slice (H 1).ao (th.take f).length (H 1).cap) := by show _ = _; rw [e0, hf00]; rfl
            have HH1 := (show Hid _ from e0)
            rw [e0, h0'] at p4
            have hfz : (f : Int) = 0 := by omega
            clear e0 h0 h0'
            go_upto_region 17 with fail
            have D5 : Hid (BagIs (w2.setCell ⟨b, 4, none⟩ (.slice none 0 0)) b 137 (plyList rb ro g l.length tb sh (th.take f) H) (rowPl sh (th.take f)) H ∧ Turned b w2 H (w2.setCell ⟨b, 4, none⟩ (.slice none 0 0)) H) := by
              have q := P2.ply.bag.reset (rows' := rowPl sh (th.take f)) 4 (.slice none 0 0) (by
                intro j
                match j with
                | 0 => exact P2.ply.bag.own 0
                | 1 => exact oT.cutE f hfth
                | m + 2 => exact P2.ply.bag.own (m + 2))
              have e : (plyList rb ro g l.length tb sh th H).set 4 (.slice none 0 0) = plyList rb ro g l.length tb sh (th.take f) H := by
                simp only [plyList, List.set_cons_succ, List.set_cons_zero]
                rw [HQX.out]
              rw [e] at q
              exact q
            generalize hX : w2.setCell ⟨b, 4, none⟩ (.slice none 0 0) = X at D5 ⊢
            have kX : Kept [] w0 X := by rw [← hX]; exact P2.kept.setCell (Or.inr P.hb) _
            have PX : Plays w0 X b rb ro g l.length tb sh (th.take f) H := ⟨⟨D5.out.1, fun e he => ⟨(P2.ply.shs e he).1.turned D5.out.2, (P2.ply.shs e he).2⟩, fun e he => ⟨(P2.ply.ths e (List.mem_of_mem_take he)).1.turned D5.out.2, (P2.ply.ths e (List.mem_of_mem_take he)).2⟩⟩, kX, P.hb, P.hin⟩
            have kb : KeptP (fun x => x = b) w2 X := by rw [← hX]; exact (KeptP.refl (fun x => x = b) w2).setCell (Or.inl (show b = b from rfl)) _
            have SX : SubIs X w.heap.size us be Hs := ⟨S2'.bag.keptP kb (by omega) (fun x hx => by have := hNs x hx; omega), S2'.len, fun e he => ⟨(S2'.exs e he).view.keptP kb (fun x hx e2 => hbn e he (e2 ▸ hx)), (S2'.exs e he).adr, fun x hx => ⟨Nat.lt_of_lt_of_le ((S2'.exs e he).far x hx).1 kb.size, ((S2'.exs e he).far x hx).2⟩⟩⟩
            have p0 := PX.ply.ctx.cells.1
            have hbX := PX.ply.bag.lt
            have hin2 := fun x (hx : InH H x) => PX.ply.bag.inlt hx
            have hsyl := E.ok.syms nn hn
            have EX := E.still kX
            clear hX p4 y4 KA
            go_wp2_with (first | (go_at_call 43; refine (statement_any rb ro nn l HR _ (by exact EX.recd) hn).mono ?_; rintro e w6 ⟨rfl, k6⟩; unfold stVal) | (go_at_call 125; refine (replace_any w.heap.size us be Hs (HR (10 + 2 * nn)) l[nn].symbols _ (by exact SX.still k6) (by omega) (fun e he => hSo.two _ (List.mem_map_of_mem he)) (((EX.still k6).recd.sts.syms nn l[nn] (List.getElem?_eq_getElem hn)).view) (by omega)).mono ?_; rintro e w7 ⟨hd, rfl, o7, n7, k7⟩))
            have k6s := k6.size
            exact bodyPost_ret (v := .tuple #[.slice hd.ao (replF us (be.map Ex.xs) l[nn].symbols).length hd.cap, .int .i64 0]) (by simp [results, Tryz.results109, go_sem]) rfl
              ⟨th.take f, ⟨hd, replF us (be.map Ex.xs) l[nn].symbols⟩, by rw [HN.out], by rw [HN.out], PX.still (k6.trans k7), ⟨o7.view, fun x hx => ⟨o7.lt hx, by have := n7 x hx; omega, fun hm => by have := n7 x hx; have := hin2 x hm; omega⟩⟩, fun _ => rfl, by simp; omega⟩
          · have HQX : Hid (Value.slice (some ⟨gt, 0, none⟩) f (H 1).cap = Value.slice (H 1).ao (th.take f).length (H 1).cap) := by show _ = _; rw [et]; simp; omega
            have hcpt : th.length ≤ (H 1).cap := et3
            have hfc : (f : Int) ≤ (H 1).cap := by omega
            rw [et] at p4
            clear et
            go_upto_region 17 with fail
            have D5 : Hid (BagIs (w2.setCell ⟨b, 4, none⟩ (.slice (some ⟨gt, 0, none⟩) f (H 1).cap)) b 137 (plyList rb ro g l.length tb sh (th.take f) H) (rowPl sh (th.take f)) H ∧ Turned b w2 H (w2.setCell ⟨b, 4, none⟩ (.slice (some ⟨gt, 0, none⟩) f (H 1).cap)) H) := by
              have q := P2.ply.bag.reset (rows' := rowPl sh (th.take f)) 4 (.slice (some ⟨gt, 0, none⟩) f (H 1).cap) (by
                intro j
                match j with
                | 0 => exact P2.ply.bag.own 0
                | 1 => exact oT.cutE f hfth
                | m + 2 => exact P2.ply.bag.own (m + 2))
              have e : (plyList rb ro g l.length tb sh th H).set 4 (.slice (some ⟨gt, 0, none⟩) f (H 1).cap) = plyList rb ro g l.length tb sh (th.take f) H := by
                simp only [plyList, List.set_cons_succ, List.set_cons_zero]
                rw [HQX.out]
              rw [e] at q
              exact q
            generalize hX : w2.setCell ⟨b, 4, none⟩ (.slice (some ⟨gt, 0, none⟩) f (H 1).cap) = X at D5 ⊢
            have kX : Kept [] w0 X := by rw [← hX]; exact P2.kept.setCell (Or.inr P.hb) _
            have PX : Plays w0 X b rb ro g l.length tb sh (th.take f) H := ⟨⟨D5.out.1, fun e he => ⟨(P2.ply.shs e he).1.turned D5.out.2, (P2.ply.shs e he).2⟩, fun e he => ⟨(P2.ply.ths e (List.mem_of_mem_take he)).1.turned D5.out.2, (P2.ply.ths e (List.mem_of_mem_take he)).2⟩⟩, kX, P.hb, P.hin⟩
            have kb : KeptP (fun x => x = b) w2 X := by rw [← hX]; exact (KeptP.refl (fun x => x = b) w2).setCell (Or.inl (show b = b from rfl)) _
            have SX : SubIs X w.heap.size us be Hs := ⟨S2'.bag.keptP kb (by omega) (fun x hx => by have := hNs x hx; omega), S2'.len, fun e he => ⟨(S2'.exs e he).view.keptP kb (fun x hx e2 => hbn e he (e2 ▸ hx)), (S2'.exs e he).adr, fun x hx => ⟨Nat.lt_of_lt_of_le ((S2'.exs e he).far x hx).1 kb.size, ((S2'.exs e he).far x hx).2⟩⟩⟩
            have p0 := PX.ply.ctx.cells.1
            have hbX := PX.ply.bag.lt
            have hin2 := fun x (hx : InH H x) => PX.ply.bag.inlt hx
            have hsyl := E.ok.syms nn hn
            have EX := E.still kX
            clear hX p4 y4 KA
            go_wp2_with (first | (go_at_call 43; refine (statement_any rb ro nn l HR _ (by exact EX.recd) hn).mono ?_; rintro e w6 ⟨rfl, k6⟩; unfold stVal) | (go_at_call 125; refine (replace_any w.heap.size us be Hs (HR (10 + 2 * nn)) l[nn].symbols _ (by exact SX.still k6) (by omega) (fun e he => hSo.two _ (List.mem_map_of_mem he)) (((EX.still k6).recd.sts.syms nn l[nn] (List.getElem?_eq_getElem hn)).view) (by omega)).mono ?_; rintro e w7 ⟨hd, rfl, o7, n7, k7⟩))
            have k6s := k6.size
            exact bodyPost_ret (v := .tuple #[.slice hd.ao (replF us (be.map Ex.xs) l[nn].symbols).length hd.cap, .int .i64 0]) (by simp [results, Tryz.results109, go_sem]) rfl
              ⟨th.take f, ⟨hd, replF us (be.map Ex.xs) l[nn].symbols⟩, by rw [HN.out], by rw [HN.out], PX.still (k6.trans k7), ⟨o7.view, fun x hx => ⟨o7.lt hx, by have := n7 x hx; omega, fun hm => by have := n7 x hx; have := hin2 x hm; omega⟩⟩, fun _ => rfl, by simp; omega⟩

end Go.Proofs.YtkancbaldeeijaaGreat
