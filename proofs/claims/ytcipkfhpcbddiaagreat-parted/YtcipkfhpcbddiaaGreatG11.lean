/- Our texts: Read5, Read6, Rec1, Rec2, Rec3, Rec4. -/
import Derived.Test.YtcipkfhpcbddiaaGreatG10
/- Package reader: readFile, with all that it includes. -/
namespace Go.Proofs.YtcipkfhpcbddiaaGreat
open Go.RowKit
attribute [local go_sem] build_fault build_nofault

set_option maxHeartbeats 4000000 in
set_option maxRecDepth 100000 in
theorem readFile_step (b v tt f : Nat) (fs : List (ByteArray × ByteArray)) (more : List Value) (hsz : ∀ j, j < fs.length → (fileDt fs j).size ≤ 1024) (hvb : v ≠ b)
    (IH : ∀ g, g < f → ∀ (j : Nat) (bg : List Bool) (d : Db) (H : Nat → Hd) (w : World) (m : Nat), j < fs.length → bg.length = 4 → Bnd d m → m + meas fs bg ≤ 9000000 → meas fs bg ≤ g → DbIs w b 113 (preOf v bg) [] d H → TabAt w v tt fs more → ¬ InH H v → FileSays b v fs g j bg d H w)
    (j : Nat) (bg : List Bool) (d : Db) (H : Nat → Hd) (w : World) (m : Nat) (hj : j < fs.length) (hbg : bg.length = 4) (hB : Bnd d m) (hm : m + meas fs bg ≤ 9000000) (hf : meas fs bg ≤ f)
    (h : DbIs w b 113 (preOf v bg) [] d H) (ht : TabAt w v tt fs more) (hvi : ¬ InH H v) (hb : bg.getD j true = false) : FileSays b v fs f j bg d H w := by
  unfold FileSays fileR
  rw [if_neg (by rw [hb]; simp)]
  have hlen := ht.2
  have hs := hsz j hj
  have hms := meas_set fs bg j hbg hb
  obtain ⟨n, hn⟩ : ∃ n, fileNm fs j = n := ⟨_, rfl⟩
  obtain ⟨s, hsd⟩ : ∃ s, fileDt fs j = s := ⟨_, rfl⟩
  rw [hsd] at hs hms
  have hbw := h.lt
  have hfr := h.free
  have hvw := ht.lt
  have c1 := h.preCell (1 + j) (by rw [preOf_len v bg hbg]; omega)
  rw [preOf_at v bg j hbg (by omega), hb] at c1
  have c0 := h.preCell 0 (by simp [preOf])
  have c0' : w.cell? ⟨b, 0, none⟩ = some (.pointer (some ⟨v, 0, none⟩)) := c0
  clear c0
  have P1 := h.pre (1 + j) (by rw [preOf_len v bg hbg]; omega) (.bool true)
  rw [preOf_set] at P1
  obtain ⟨bg1, hbg1⟩ : ∃ bg1, bg.set j true = bg1 := ⟨_, rfl⟩
  have hl1 : bg1.length = 4 := by rw [← hbg1]; simpa using hbg
  rw [hbg1] at P1 hms ⊢
  clear hbg1
  obtain ⟨W, hW⟩ : ∃ W, W = (w.setCell ⟨b, 1 + j, none⟩ (.bool true)).alloc (.cells #[.int .i64 0, .string ⟨#[]⟩, .int .i64 0, .int .i64 0] 41) := ⟨_, rfl⟩
  have D1 : DbIs W b 113 (preOf v bg1) [] d H := by rw [hW]; exact P1.1.still ((Kept.refl [] _).alloc _)
  have T1 : Turned b w H W H := by rw [hW]; exact P1.2.still ((Kept.refl [] _).alloc _)
  have F1 : W.heap[w.heap.size]? = some (.cells zeroFault 41 (0, 0)) := by
    rw [hW]
    have := heap_alloc_new (w.setCell ⟨b, 1 + j, none⟩ (.bool true)) (.cells zeroFault 41)
    simpa [World.setCell, zeroFault] using this
  have ht1 : TabAt W v tt fs more := ⟨T1.1.get ht.1 (by rintro (e | e); exact hvb e; exact hvi e), ht.2⟩
  have HNI : Hid (∀ k, w.heap.size ≤ k → ¬ InH H k) := fun k hk hm => by have := h.inlt hm; omega
  have HW := (show Hid _ from hW.symm)
  have HIH := (show Hid _ from IH)
  clear P1 hW IH
  go_enter Tryz.func50, Tryz.ntmps50
  go_wp2_with fail
  rw [HW.out]
  clear HW c1 c0' hfr ht h
  refine (file_any v tt j fs more _ ht1 hj).mono ?_
  rintro e w2 ⟨rfl, hk2⟩
  rw [hn, hsd]
  go_wp2_with fail
  refine (newScan_any n s _).mono ?_
  rintro e w3 ⟨sp, rfl, hsp, h3, hk3⟩
  go_wp2_with fail
  refine (next_any sp 0 n s _ hs (by omega) h3).mono ?_
  rintro e w4 ⟨rfl, h4, hk4⟩
  have hWl := lt_of_get F1
  have hz2 := hk2.size
  have hz3 := hk3.size
  have hz4 := hk4.size
  have hspw : w.heap.size < sp := by omega
  have hspb : sp ≠ b := by omega
  have hvs : v ≠ sp := by omega
  have T4 : Turned b w H w4 H := (((T1.still hk2).still hk3).beyond hk4 (by simp; omega))
  have F4 : w4.heap[w.heap.size]? = some (.cells zeroFault 41 (0, 0)) := hk4.get (hk3.get (hk2.get F1 (by simp)) (by simp)) (by simp; omega)
  have D4 : DbIs w4 b 113 (preOf v bg1) [] d H := ((D1.still hk2).still hk3).kept hk4 (by simp; omega) (by intro k hk; simp; rintro rfl; exact HNI.out _ (by omega) hk)
  have TB4 : TabAt w4 v tt fs more := ((ht1.kept hk2 (by simp)).kept hk3 (by simp)).kept hk4 (by simp; omega)
  have hsp4 := lt_of_get h4
  clear D1 T1 F1 ht1 hk2 hk3 hk4 h3
  simp only [itemV]
  go_wp2
  go_loopg [7] s.size (fun gk _ wr => ∃ (k g m1 : Nat) (bg' : List Bool) (d' : Db) (H1 : Nat → Hd), k ≤ s.size ∧ gk = s.size - k ∧ bg'.length = 4 ∧ Bnd d' m1 ∧ m1 + (s.size - k) + meas fs bg' ≤ 9000000 ∧ (s.size - k) + meas fs bg' + 1 ≤ g ∧ g ≤ f ∧
    Hid (readGo fs f j 0 bg1 d = readGo fs g j k bg' d') ∧ ScanAt wr sp n s (nextF s k).2 ∧ ItemAt wr w4.heap.size n s (nextF s k).1 ∧
    wr.heap[w.heap.size]? = some (.cells zeroFault 41 (0, 0)) ∧ DbIs wr b 113 (preOf v bg') [] d' H1 ∧ TabAt wr v tt fs more ∧ Turned b w H wr H1 ∧ (¬ InH H1 sp ∧ ¬ InH H1 w4.heap.size ∧ ¬ InH H1 w.heap.size ∧ ¬ InH H1 v))
  case atStart => exact ⟨0, f, m, bg1, d, H, by omega, by omega, hl1, hB, by omega, by omega, Nat.le_refl _, rfl, h4.kept ((Kept.refl [] _).alloc _) (by simp), heap_alloc_new _ _, ((Kept.refl [] _).alloc _).get F4 (by simp), D4.still ((Kept.refl [] _).alloc _), TB4.kept ((Kept.refl [] _).alloc _) (by simp), T4.still ((Kept.refl [] _).alloc _), HNI.out _ (by omega), HNI.out _ (by omega), HNI.out _ (by omega), hvi⟩
  case round =>
    obtain ⟨k, g, m1, bg', d', H1, hk, hg, hl', hB1, hm1, hfg, hgf, hR, h5, hI, hF, D, TB, T, hn1, hn2, hn3, hn4⟩ := hrel
    obtain ⟨g', rfl⟩ : ∃ g', g = g' + 1 := ⟨g - 1, by omega⟩
    clear D4 T4 F4 TB4 h4
    have hnl := nextF_le s k hk
    have htx := nextF_text s k hs
    have SK := step_kin fs g' (go_kin fs g').2 j k bg' d' m1 (by rw [hsd]; exact hk) hl' hB1
    have L1 := go_on fs g' j k bg' d'
    have L2 := go_stop fs g' j k bg' d'
    have L3 := go_end fs g' j k bg' d'
    have L4 := go_bad fs g' j k bg' d'
    have ST : stepR fs g' j k bg' d' = wordR (fileR fs g') fs j (nextF s k).2 (nextF s k).1.text (plAt n s (nextF s k).1.pos) bg' d' := by unfold stepR; rw [hn, hsd]
    rw [hsd] at SK L1 L2 L3 L4
    rw [hn] at L4
    rw [ST] at SK L1 L2
    have L6 : isWordF (nextF s k).1 = false → (nextF s k).1.fin = false → ((nextF s k).1.rule == 0) = false := isWordF_not
    have HSK := (show Hid _ from SK)
    have HL1 := (show Hid _ from L1)
    have HL2 := (show Hid _ from L2)
    have HL3 := (show Hid _ from L3)
    have HL4 := (show Hid _ from L4)
    have HL6 := (show Hid _ from L6)
    clear SK L1 L2 L3 L4 L6 ST
    generalize hrr : nextF s k = r at *
    obtain ⟨⟨t, u, fi, p⟩, z⟩ := r
    clear hrr
    simp only at h5 hI hnl htx HSK HL1 HL2 HL3 HL4 HL6
    obtain ⟨q0, q1, q2, q3, q4, q5⟩ := hI.cells
    have hFw := lt_of_get hF
    have hsw := lt_of_get h5
    have hIw := lt_of_get hI
    have hDw := D.lt
    cases hw : (u == 0 && !fi)
    · cases fi
      · have HF : Hid (readGo fs f j 0 bg1 d = (itemFlt n s ⟨t, u, false, p⟩, bg', d')) := hR.out.trans (HL4.out hw (by simp))
        have hu : (u == 0) = false := by simpa using hw
        clear HL1 HL2 HL3 HL4 HL6 HSK
        go_wp2_with fail
        refine (isWord_any t n _ (lineAt s p) (colAt s p) _ _).mono ?_
        rintro e w5 ⟨rfl, hk5⟩
        have hI5 := hI.kept hk5 (by simp)
        have hF5 := hk5.get hF (by simp)
        have D5 := D.still hk5
        have T5 := T.still hk5
        clear q0 q1 q2 q3 q4 q5 hI h5 hF D T hk5 TB
        obtain ⟨q0, q1, q2, q3, q4, q5⟩ := hI5.cells
        go_wp2_with fail
        refine (faultOf_any t n u (lineAt s p) (colAt s p) _ _).mono ?_
        rintro e w6 ⟨rfl, hk6⟩
        simp only [Bool.false_eq_true, if_false]
        have hF6 := hk6.get hF5 (by simp)
        have D6 := D5.still hk6
        have T6 := T5.still hk6
        have HA' := (show Hid _ from fun a0 a1 a2 a3 => flt_after D6 T6 (F := w.heap.size) (Nat.le_refl _) (by omega) hn3 a0 a1 a2 a3)
        obtain ⟨z0, z1, z2, z3⟩ := zero_cells hF6
        have y := free_of hF6
        go_wp2
        exact bodyPost_ret (v := .agg #[.int .i64 u, .string n, .int .i64 (lineAt s p), .int .i64 (colAt s p)]) (by simp [results, Tryz.results50, go_sem, z0, z1, z2, z3]) rfl
          ⟨by rw [HF.out]; rfl, H1, by rw [HF.out]; exact (HA'.out _ _ _ _).1, (HA'.out _ _ _ _).2⟩
      · cases ho : openF d'
        · have HF : Hid (readGo fs f j 0 bg1 d = (noFlt, bg', d')) := hR.out.trans (HL3.out hw rfl ho)
          clear HL1 HL2 HL3 HL4 HL6 HSK
          go_wp2_with fail
          refine (isWord_any t n _ (lineAt s p) (colAt s p) _ _).mono ?_
          rintro e w5 ⟨rfl, hk5⟩
          have hI5 := hI.kept hk5 (by simp)
          have hF5 := hk5.get hF (by simp)
          have D5 := D.still hk5
          have T5 := T.still hk5
          clear q0 q1 q2 q3 q4 q5 hI h5 hF D T hk5 TB
          obtain ⟨q0, q1, q2, q3, q4, q5⟩ := hI5.cells
          go_wp2_with fail
          refine (open_any b 113 5 (preOf v bg') [] d' H1 _ D5 (preOf_len v bg' hl')).mono ?_
          rintro e w6 ⟨rfl, hw6⟩
          subst hw6
          rw [ho]
          have HA' := (show Hid _ from fun a0 a1 a2 a3 => flt_after D5 T5 (F := w.heap.size) (Nat.le_refl _) (by omega) hn3 a0 a1 a2 a3)
          obtain ⟨z0, z1, z2, z3⟩ := zero_cells hF5
          have y := free_of hF5
          go_wp2
          exact bodyPost_ret (v := .agg #[.int .i64 0, .string ⟨#[]⟩, .int .i64 0, .int .i64 0]) (by simp [results, Tryz.results50, go_sem, z0, z1, z2, z3]) rfl
            ⟨by rw [HF.out]; rfl, H1, by rw [HF.out]; exact (HA'.out _ _ _ _).1, (HA'.out _ _ _ _).2⟩
        · have HF : Hid (readGo fs f j 0 bg1 d = (itemFlt n s ⟨t, u, true, p⟩, bg', d')) := hR.out.trans (HL4.out hw (by simp [ho]))
          clear HL1 HL2 HL3 HL4 HL6 HSK
          go_wp2_with fail
          refine (isWord_any t n _ (lineAt s p) (colAt s p) _ _).mono ?_
          rintro e w5 ⟨rfl, hk5⟩
          have hI5 := hI.kept hk5 (by simp)
          have hF5 := hk5.get hF (by simp)
          have D5 := D.still hk5
          have T5 := T.still hk5
          clear q0 q1 q2 q3 q4 q5 hI h5 hF D T hk5 TB
          obtain ⟨q0, q1, q2, q3, q4, q5⟩ := hI5.cells
          go_wp2_with fail
          refine (open_any b 113 5 (preOf v bg') [] d' H1 _ D5 (preOf_len v bg' hl')).mono ?_
          rintro e w6 ⟨rfl, hw6⟩
          subst hw6
          rw [ho]
          go_wp2_with fail
          refine (faultOf_any t n u (lineAt s p) (colAt s p) _ _).mono ?_
          rintro e w7 ⟨rfl, hk7⟩
          simp only [if_true]
          have hF7 := hk7.get hF5 (by simp)
          have D7 := D5.still hk7
          have T7 := T5.still hk7
          have HA' := (show Hid _ from fun a0 a1 a2 a3 => flt_after D7 T7 (F := w.heap.size) (Nat.le_refl _) (by omega) hn3 a0 a1 a2 a3)
          obtain ⟨z0, z1, z2, z3⟩ := zero_cells hF7
          have y := free_of hF7
          go_wp2
          exact bodyPost_ret (v := .agg #[.int .i64 7, .string n, .int .i64 (lineAt s p), .int .i64 (colAt s p)]) (by simp [results, Tryz.results50, go_sem, z0, z1, z2, z3]) rfl
            ⟨by rw [HF.out]; rfl, H1, by rw [HF.out]; exact (HA'.out _ _ _ _).1, (HA'.out _ _ _ _).2⟩
    · have hu : u = 0 := by simp at hw; exact hw.1
      have hfi : fi = false := by simp at hw; exact hw.2
      subst hu hfi
      have hsm := hB1.small (N := 10000000) (by omega)
      have hsm2 := (hB1.small (N := 100000000) (by omega)).2
      have RW := fun (w' : World) (h' : DbIs w' b 113 (preOf v bg') [] d' H1) (hsc : ScanAt w' sp n s z) (htb : TabAt w' v tt fs more) => readWord_any b v tt sp g' j z fs more bg' hl' d' H1 n s t (lineAt s p) (colAt s p) w' h' hn hsd hs hnl.2.1 hsc htb hspb hvs hn1 hsm.1 (by omega) hsm2
        (fun jj ww hjj hdd htt => HIH.out g' (by omega) jj bg' d' H1 ww m1 hjj hl' hB1 (by omega) (by omega) hdd htt hn4)
      have HRW := (show Hid _ from RW)
      have HSK' := (show Hid _ from HSK.out hw)
      have HL1' := (show Hid _ from HL1.out hw)
      have HL2' := (show Hid _ from HL2.out hw)
      clear RW HL1 HL2 HL3 HL4 HL6 HSK
      simp only [plAt] at HSK' HL1' HL2'
      generalize wordR (fileR fs g') fs j z t ⟨n, lineAt s p, colAt s p⟩ bg' d' = Q at *
      obtain ⟨⟨⟨r, pf, pl, pc⟩, bg2, d2⟩, z2⟩ := Q
      simp only [fltV] at HSK' HL1' HL2' HRW
      have hz2' := HSK'.out.2
      obtain ⟨hl2, hme, m2, hB2, hm2⟩ := HSK'.out.1
      simp only at hl2 hme hB2 hm2 hz2'
      clear HSK'
      cases hr : (r == 0)
      · have hr' : (r != 0) = true := by simp [bne, hr]
        have HF : Hid (readGo fs f j 0 bg1 d = ((r, ⟨pf, pl, pc⟩), bg2, d2)) := hR.out.trans (HL2'.out hr)
        clear HL1' HL2'
        go_wp2_with fail
        refine (isWord_any t n _ (lineAt s p) (colAt s p) _ _).mono ?_
        rintro e w5 ⟨rfl, hk5⟩
        have hI5 := hI.kept hk5 (by simp)
        have h55 := h5.kept hk5 (by simp)
        have hF5 := hk5.get hF (by simp)
        have D5 := D.still hk5
        have T5 := T.still hk5
        have TB5 := TB.kept hk5 (by simp)
        clear q0 q1 q2 q3 q4 q5 hI h5 hF D T TB hk5
        obtain ⟨q0, q1, q2, q3, q4, q5⟩ := hI5.cells
        go_wp2_with fail
        refine (HRW.out _ D5 h55 TB5).mono ?_
        rintro e w6 ⟨rfl, H2, D6, M6, -⟩
        have hF6 := M6.1.get hF5 (by rintro (e | e | e); omega; omega; exact hn3 e)
        have m3 := M6.fresh w.heap.size (lt_of_get hF5) hn3
        have T7 := T5.word M6 (by omega)
        have hF6w := lt_of_get hF6
        have y6 := free_of hF6
        obtain ⟨z0, z1, z2, z3⟩ := zero_cells hF6
        have HA' := (show Hid _ from fun a0 a1 a2 a3 => flt_after D6 T7 (F := w.heap.size) (Nat.le_refl _) (by omega) m3 a0 a1 a2 a3)
        clear q0 q1 q2 q3 q4 q5
        go_wp2
        exact bodyPost_ret (v := .agg #[.int .i64 r, .string pf, .int .i64 pl, .int .i64 pc]) (by simp [results, Tryz.results50, go_sem, hF6w, z0, z1, z2, z3]) rfl
          ⟨by rw [HF.out]; rfl, H2, by rw [HF.out]; exact (HA'.out _ _ _ _).1.still ((Kept.refl [] _).alloc _), ((HA'.out _ _ _ _).2.still ((Kept.refl [] _).alloc _))⟩
      · have hr' : (r != 0) = false := by simp [bne, hr]
        have HF : Hid (readGo fs f j 0 bg1 d = readGo fs g' j z2 bg2 d2) := hR.out.trans (HL1'.out hr)
        clear HL1' HL2'
        go_wp2_with fail
        refine (isWord_any t n _ (lineAt s p) (colAt s p) _ _).mono ?_
        rintro e w5 ⟨rfl, hk5⟩
        have hI5 := hI.kept hk5 (by simp)
        have h55 := h5.kept hk5 (by simp)
        have hF5 := hk5.get hF (by simp)
        have D5 := D.still hk5
        have T5 := T.still hk5
        have TB5 := TB.kept hk5 (by simp)
        clear q0 q1 q2 q3 q4 q5 hI h5 hF D T TB hk5
        obtain ⟨q0, q1, q2, q3, q4, q5⟩ := hI5.cells
        go_wp2_with fail
        refine (HRW.out _ D5 h55 TB5).mono ?_
        rintro e w6 ⟨rfl, H2, D6, M6, hs6⟩
        have h6 := hs6 hr
        have hF6 := M6.1.get hF5 (by rintro (e | e | e); omega; omega; exact hn3 e)
        have hI6 : ItemAt w6 w4.heap.size n s ⟨t, 0, false, p⟩ := M6.1.get hI5 (by rintro (e | e | e); omega; omega; exact hn2 e)
        have TB6 : TabAt w6 v tt fs more := ⟨M6.1.get TB5.1 (by rintro (e | e | e); exact hvb e; exact hvs e; exact hn4 e), TB5.2⟩
        have e1 := M6.fresh sp (lt_of_get h55) hn1
        have e2 := M6.fresh w4.heap.size (lt_of_get hI5) hn2
        have e3 := M6.fresh w.heap.size (lt_of_get hF5) hn3
        have e4 := M6.fresh v TB5.lt hn4
        have T7 := T5.word M6 (by omega)
        have hF6w := lt_of_get hF6
        have hI6w := lt_of_get hI6
        have h6w := lt_of_get h6
        go_wp2_with fail
        refine (next_any sp z2 n s _ hs hz2'.2 (by exact h6.kept ((Kept.refl [] _).alloc _) (by simp))).mono ?_
        rintro e w8 ⟨rfl, h8, hk8⟩
        have hI8 := (hI6.kept ((Kept.refl [] _).alloc _) (by simp)).kept hk8 (by simp; omega)
        have hF8 := hk8.get (((Kept.refl [] _).alloc _).get hF6 (by simp)) (by simp; omega)
        have D8 := (D6.still ((Kept.refl [] _).alloc _)).kept hk8 (by simp; omega) (by intro k hk; simp; rintro rfl; exact e1 hk)
        have TB8 := (TB6.kept ((Kept.refl [] _).alloc _) (by simp)).kept hk8 (by simp; omega)
        have T8 := (T7.still ((Kept.refl [] _).alloc _)).beyond hk8 (by simp; omega)
        have yy := free_of hI8
        have hI8w := lt_of_get hI8
        clear q0 q1 q2 q3 q4 q5
        obtain ⟨q0, q1, q2, q3, q4, q5⟩ := hI8.cells
        simp only [itemV]
        go_wp2
        go_roundg (s.size - z2)
        case measure => omega
        case rel =>
          exact ⟨z2, g', m2, bg2, d2, H2, hz2'.2, rfl, hl2, hB2, by omega, by omega, by omega, HF.out, six_scan h8 (by omega) _ _ _ _ _ _, item_stored hI8 _, six_other hF8 (by omega) _ _ _ _ _ _,
            D8.kept (six_in _ _ _ _ _ _) (by simp; omega) (by intro k hk; simp; rintro rfl; exact e2 hk), TB8.kept (six_in _ _ _ _ _ _) (by simp; omega), T8.beyond (six_in _ _ _ _ _ _) (by simp; omega), e1, e2, e3, e4⟩

theorem readFile_any (b v tt : Nat) (fs : List (ByteArray × ByteArray)) (more : List Value) (hsz : ∀ j, j < fs.length → (fileDt fs j).size ≤ 1024) (hvb : v ≠ b) (f : Nat) : ∀ (j : Nat) (bg : List Bool) (d : Db) (H : Nat → Hd) (w : World) (m : Nat), j < fs.length → bg.length = 4 → Bnd d m → m + meas fs bg ≤ 9000000 → meas fs bg ≤ f → DbIs w b 113 (preOf v bg) [] d H → TabAt w v tt fs more → ¬ InH H v → FileSays b v fs f j bg d H w := by
  induction f using Nat.strongRecOn with
  | _ f IH =>
    intro j bg d H w m hj hbg hB hm hf h ht hvi
    cases hb : bg.getD j true with
    | true => exact readFile_begun b v f j fs bg hbg d H w (by have := ht.2; omega) h hb
    | false => exact readFile_step b v tt f fs more hsz hvb IH j bg d H w m hj hbg hB hm hf h ht hvi hb

end Go.Proofs.YtcipkfhpcbddiaaGreat

/- Package reader: Read. The record, as others find it. -/
namespace Go.Proofs.YtcipkfhpcbddiaaGreat
open Go.RowKit
attribute [local go_sem] build_fault build_nofault

/-- Statements in memory: the array, and each one's own two. -/
structure StsIs (w : World) (l : List St) (H : Nat → Hd) : Prop where
  own : Owns w (H 6) (rowT l H)
  syms : ∀ i s, l[i]? = some s → Owns w (H (10 + 2 * i)) (rowS s.symbols)
  prfs : ∀ i s, l[i]? = some s → Owns w (H (11 + 2 * i)) (rowW s.proof)
theorem DbIs.record {w : World} {b t : Nat} {pre post : List Value} {d : Db} {H : Nat → Hd} (h : DbIs w b t pre post d H) : StsIs w d.sts H := by
  refine ⟨h.own 6, fun i s hs => ?_, fun i s hs => ?_⟩
  · have := h.own (10 + 2 * i)
    rw [show 10 + 2 * i = 2 * i + 10 by omega] at this ⊢
    have e : rowsOf d H (2 * i + 10) = rowS s.symbols := by simp [rowsOf, inner, symsAt, hs]
    rw [e] at this; exact this
  · have := h.own (11 + 2 * i)
    rw [show 11 + 2 * i = (2 * i + 1) + 10 by omega] at this ⊢
    have q : (2 * i + 1) % 2 = 1 := by omega
    have q2 : (2 * i + 1) / 2 = i := by omega
    have e : rowsOf d H ((2 * i + 1) + 10) = rowW s.proof := by simp [rowsOf, inner, prfAt, q, q2, hs]
    rw [e] at this; exact this
theorem StsIs.keptP {w w' : World} {l : List St} {H : Nat → Hd} {P : Nat → Prop} (h : StsIs w l H) (k : KeptP P w w') (hP : ∀ x, InH H x → ¬ P x) : StsIs w' l H :=
  ⟨h.own.moved (fun x hx => k.block x (h.own.lt hx) (hP x ⟨6, hx⟩)), fun i s hs => (h.syms i s hs).moved (fun x hx => k.block x ((h.syms i s hs).lt hx) (hP x ⟨_, hx⟩)), fun i s hs => (h.prfs i s hs).moved (fun x hx => k.block x ((h.prfs i s hs).lt hx) (hP x ⟨_, hx⟩))⟩
theorem StsIs.kept {w w' : World} {l : List St} {H : Nat → Hd} {S : List Nat} (h : StsIs w l H) (k : Kept S w w') (hP : ∀ x, InH H x → x ∉ S) : StsIs w' l H :=
  h.keptP (k.toP (P := (· ∈ S)) (fun _ hm _ => hm)) hP
theorem StsIs.still {w w' : World} {l : List St} {H : Nat → Hd} (h : StsIs w l H) (k : Kept [] w w') : StsIs w' l H := h.kept k (by simp)

theorem build_reader (w : World) (a : Option Addr) : (Instr.build 113 #[(0, .pointer a)]).run Tryz.prog w = .ok (.agg #[.pointer a, .bool false, .bool false, .bool false, .bool false,
    .slice none 0 0, .slice none 0 0, .slice none 0 0, .slice none 0 0, .slice none 0 0, .slice none 0 0, .slice none 0 0, .slice none 0 0, .int .i64 0, .string ⟨#[]⟩, .slice none 0 0, .bool false, .slice none 0 0]) w :=
  run_build w 113 _ _ (by kernel_rfl)
theorem build_norec (w : World) : (Instr.build 82 #[]).run Tryz.prog w = .ok (.agg #[.slice none 0 0, .slice none 0 0]) w :=
  run_build w 82 _ _ (by kernel_rfl)
attribute [local go_sem] build_reader build_norec

def noHd : Nat → Hd := fun _ => ⟨none, 0⟩
theorem not_no (k : Nat) : ¬ InH noHd k := by rintro ⟨i, h⟩; simp [noHd, Hd.blk] at h
def bg0 : List Bool := [false, false, false, false]

theorem DbIs.begin {w : World} {b t : Nat} {pre : List Value} (h : w.heap[b]? = some (.cells (pre ++ (dbList emptyDb noHd ++ [])).toArray t (0, 0))) : DbIs w b t pre [] emptyDb noHd := by
  refine ⟨h, ?_, fun i j _ => Or.inl rfl, fun i e => by simp [noHd, Hd.blk] at e⟩
  intro i
  match i with
  | 0 => exact World.ownsRow_nil _ _ _ _
  | 1 => exact World.ownsRow_nil _ _ _ _
  | 2 => exact World.ownsRow_nil _ _ _ _
  | 3 => exact World.ownsRow_nil _ _ _ _
  | 4 => exact World.ownsRow_nil _ _ _ _
  | 5 => exact World.ownsRow_nil _ _ _ _
  | 6 => exact World.ownsRow_nil _ _ _ _
  | 7 => exact World.ownsRow_nil _ _ _ _
  | 8 => exact World.ownsRow_nil _ _ _ _
  | 9 => exact World.ownsRow_nil _ _ _ _
  | n + 10 =>
    have e : rowsOf emptyDb noHd (n + 10) = if n % 2 = 0 then rowS [] else rowW [] := by simp [rowsOf, inner, emptyDb, symsAt, prfAt]
    rw [e]
    split
    · exact World.ownsRow_nil _ _ _ _
    · exact World.ownsRow_nil _ _ _ _

theorem record_any (b t o : Nat) (pre post : List Value) (d : Db) (H : Nat → Hd) (w : World) (h : DbIs w b t pre post d H) (ho : pre.length = o) :
    Calls Tryz.prog 51 #[.pointer (some ⟨b, o, none⟩)] w fun e w' => e = .returned (.agg #[.slice (H 6).ao d.sts.length (H 6).cap, .slice (H 7).ao d.rbl.length (H 7).cap]) ∧ Kept [] w w' := by
  obtain ⟨q0, q1, q2, q3, q4, q5, q6, q7, q8, q9, q10, q11, q12⟩ := h.cells o ho
  clear q0 q1 q2 q3 q4 q5 q8 q9 q10 q11 q12
  have hbw := h.lt
  go_enter Tryz.func51, Tryz.ntmps51
  go_wp2
  exact bodyPost_ret (v := .agg #[.slice (H 6).ao d.sts.length (H 6).cap, .slice (H 7).ao d.rbl.length (H 7).cap]) (by simp [results, Tryz.results51, go_sem]) rfl ⟨rfl, (Kept.refl _ _).alloc _⟩

theorem meas_le (fs : List (ByteArray × ByteArray)) (hsz : ∀ j, j < fs.length → (fileDt fs j).size ≤ 1024) (bg : List Bool) : meas fs bg ≤ 4104 := by
  have h : ∀ j, unb fs bg j ≤ 1026 := by
    intro j
    unfold unb
    split
    · omega
    · rcases Nat.lt_or_ge j fs.length with h | h
      · have := hsz j h; omega
      · have : (fileDt fs j).size = 0 := by unfold fileDt; rw [List.getD_eq_getElem?_getD, List.getElem?_eq_none h]; rfl
        omega
  have h0 := h 0
  have h1 := h 1
  have h2 := h 2
  have h3 := h 3
  unfold meas
  omega

theorem kept_24 {S : List Nat} {a w : World} {A B : Nat} (h : Kept S a w) (hA : A ∈ S ∨ a.heap.size ≤ A) (hB : B ∈ S ∨ a.heap.size ≤ B) (u0 u1 v0 v1 v2 v3 : Value) :
    Kept S a ((((((w.setCell ⟨A, 0, none⟩ u0).setCell ⟨A, 1, none⟩ u1).setCell ⟨B, 0, none⟩ v0).setCell ⟨B, 1, none⟩ v1).setCell ⟨B, 2, none⟩ v2).setCell ⟨B, 3, none⟩ v3) :=
  (((((h.setCell hA _).setCell hA _).setCell hB _).setCell hB _).setCell hB _).setCell hB _

/-- The whole database from a file on. -/
def readAll (fs : List (ByteArray × ByteArray)) (root : Nat) : Red := fileR fs 5000 root bg0 emptyDb

set_option maxHeartbeats 1600000 in
set_option maxRecDepth 100000 in
theorem read_any (v tt k0 : Nat) (fs : List (ByteArray × ByteArray)) (more : List Value) (w : World)
    (ht : TabAt w v tt fs more) (hk0 : k0 < fs.length) (hsz : ∀ j, j < fs.length → (fileDt fs j).size ≤ 1024) :
    Calls Tryz.prog 44 #[.pointer (some ⟨v, 0, none⟩), .int .i64 k0] w fun e w' =>
      (if ((readAll fs k0).1.1 == 0) = true then ∃ H, e = .returned (.tuple #[.agg #[.slice (H 6).ao (readAll fs k0).2.2.sts.length (H 6).cap, .slice (H 7).ao (readAll fs k0).2.2.rbl.length (H 7).cap], fltV noFlt]) ∧ StsIs w' (readAll fs k0).2.2.sts H ∧ (∀ k, InH H k → w.heap.size ≤ k)
       else e = .returned (.tuple #[.agg #[.slice none 0 0, .slice none 0 0], fltV (readAll fs k0).1])) ∧ Kept [] w w' := by
  have hvw := ht.lt
  obtain ⟨W, hW⟩ : ∃ W, W = ((w.alloc (.cells #[.slice none 0 0, .slice none 0 0] 82)).alloc (.cells #[.int .i64 0, .string ⟨#[]⟩, .int .i64 0, .int .i64 0] 41)).alloc (.cells #[.pointer (some ⟨v, 0, none⟩), .bool false, .bool false, .bool false, .bool false,
    .slice none 0 0, .slice none 0 0, .slice none 0 0, .slice none 0 0, .slice none 0 0, .slice none 0 0, .slice none 0 0, .slice none 0 0, .int .i64 0, .string ⟨#[]⟩, .slice none 0 0, .bool false, .slice none 0 0] 113) := ⟨_, rfl⟩
  have hK : Kept [] w W := by rw [hW]; exact (((Kept.refl [] _).alloc _).alloc _).alloc _
  have hA : W.heap[w.heap.size]? = some (.cells #[.slice none 0 0, .slice none 0 0] 82 (0, 0)) := by
    rw [hW]; exact (((Kept.refl [] _).alloc _).alloc _).get (heap_alloc_new _ _) (by simp)
  have hF : W.heap[w.heap.size + 1]? = some (.cells zeroFault 41 (0, 0)) := by
    rw [hW]
    have e : (w.alloc (.cells #[.slice none 0 0, .slice none 0 0] 82)).heap.size = w.heap.size + 1 := by simp
    rw [← e]
    exact ((Kept.refl [] _).alloc _).get (heap_alloc_new _ _) (by simp)
  have hD : DbIs W (w.heap.size + 2) 113 (preOf v bg0) [] emptyDb noHd := by
    refine DbIs.begin ?_
    rw [hW]
    have e : ((w.alloc (.cells #[.slice none 0 0, .slice none 0 0] 82)).alloc (.cells #[.int .i64 0, .string ⟨#[]⟩, .int .i64 0, .int .i64 0] 41)).heap.size = w.heap.size + 2 := by simp
    rw [← e]
    exact heap_alloc_new _ _
  have hT : TabAt W v tt fs more := ht.kept hK (by simp)
  have HW := (show Hid _ from hW.symm)
  have RF := readFile_any (w.heap.size + 2) v tt fs more hsz (by omega) 5000 k0 bg0 emptyDb noHd W 0 hk0 rfl Bnd.empty (by have := meas_le fs hsz bg0; omega) (by have := meas_le fs hsz bg0; omega) hD hT (not_no _)
  unfold FileSays at RF
  have HRF := (show Hid _ from RF)
  clear hW RF
  have HKN : Hid ((fileR fs 5000 k0 bg0 emptyDb).2.1.length = 4) := ((go_kin fs 5000).2 k0 bg0 emptyDb 0 rfl Bnd.empty).1
  have ER : Hid (readAll fs k0 = fileR fs 5000 k0 bg0 emptyDb) := rfl
  rw [ER.out]
  clear ER
  generalize fileR fs 5000 k0 bg0 emptyDb = R at *
  obtain ⟨⟨r, pf, pl, pc⟩, bg', d'⟩ := R
  simp only [fltV] at HRF HKN ⊢
  go_enter Tryz.func44, Tryz.ntmps44
  go_upto_region 2 with fail
  rw [HW.out]
  go_wp2_with fail
  refine Calls.mono HRF.out ?_
  rintro e w2 ⟨rfl, H2, D2, T2⟩
  have hA2 := T2.1.get hA (by rintro (e | e); omega; exact not_no _ e)
  have hF2 := T2.1.get hF (by rintro (e | e); omega; exact not_no _ e)
  have hz2 := T2.1.size
  have hWs := D2.lt
  have HNI : Hid (∀ k, InH H2 k → w.heap.size ≤ k) := fun k hk => by
    rcases T2.2 k hk with h | h
    · exact absurd h (not_no _)
    · have := hK.size; omega
  have HN2 : Hid (∀ k, InH H2 k → k ≠ w.heap.size ∧ k ≠ w.heap.size + 1 ∧ k ≠ w.heap.size + 2) := fun k hk => by
    have hz := lt_of_get hF
    have hz3 := hD.lt
    rcases T2.2 k hk with h | h
    · exact absurd h (not_no _)
    · omega
  have K2 : Hid (Kept [] w w2) := ⟨T2.1.os.trans hK.os, T2.1.tape.trans hK.tape, T2.1.output.trans hK.output, Nat.le_trans hK.size T2.1.size, fun k hk _ => (T2.1.block k (Nat.lt_of_lt_of_le hk hK.size) (by rintro (e | e); omega; exact not_no _ e)).trans (hK.block k hk (by simp))⟩
  have a0 : w2.cell? ⟨w.heap.size, 0, none⟩ = some (.slice none 0 0) := by rw [cell_of hA2]; rfl
  have a1 : w2.cell? ⟨w.heap.size, 1, none⟩ = some (.slice none 0 0) := by rw [cell_of hA2]; rfl
  obtain ⟨z0, z1, z2, z3⟩ := zero_cells hF2
  have ya := free_of hA2
  have yf := free_of hF2
  have hA2w := lt_of_get hA2
  have hF2w := lt_of_get hF2
  cases hr : (r == 0)
  · have hr' : (r != 0) = true := by simp [bne, hr]
    go_wp2_with fail
    go_region
    all_goals go_wp2
    all_goals exact bodyPost_ret (v := .tuple #[.agg #[.slice none 0 0, .slice none 0 0], .agg #[.int .i64 r, .string pf, .int .i64 pl, .int .i64 pc]]) (by simp [results, Tryz.results44, go_sem, a0, a1, z0, z1, z2, z3, hA2w, hF2w]) rfl ⟨rfl, ((kept_24 K2.out (Or.inr (Nat.le_refl _)) (Or.inr (Nat.le_succ _)) _ _ _ _ _ _).alloc _).drew⟩
  · have hr' : (r != 0) = false := by simp [bne, hr]
    go_wp2_with fail
    refine (record_any (w.heap.size + 2) 113 5 (preOf v bg') [] d' H2 _ (by exact D2.still ((Kept.refl [] _).alloc _)) (preOf_len v bg' HKN.out)).mono ?_
    rintro e w4 ⟨rfl, hk4⟩
    have k24 : Kept [] w2 w4 := ((Kept.refl [] _).alloc _).trans hk4
    have hA4 := k24.get hA2 (by simp)
    have hF4 := k24.get hF2 (by simp)
    have K4 : Hid (Kept [] w w4) := K2.out.trans k24
    have S4 : Hid (StsIs w4 d'.sts H2) := D2.record.still k24
    clear a0 a1 z0 z1 z2 z3 ya yf hk4
    have a0 : w4.cell? ⟨w.heap.size, 0, none⟩ = some (.slice none 0 0) := by rw [cell_of hA4]; rfl
    have a1 : w4.cell? ⟨w.heap.size, 1, none⟩ = some (.slice none 0 0) := by rw [cell_of hA4]; rfl
    obtain ⟨z0, z1, z2, z3⟩ := zero_cells hF4
    have ya := free_of hA4
    have yf := free_of hF4
    go_wp2
    exact bodyPost_ret (v := .tuple #[.agg #[.slice (H2 6).ao d'.sts.length (H2 6).cap, .slice (H2 7).ao d'.rbl.length (H2 7).cap], .agg #[.int .i64 0, .string ⟨#[]⟩, .int .i64 0, .int .i64 0]]) (by simp [results, Tryz.results44, go_sem, a0, a1, z0, z1, z2, z3]) rfl
      ⟨⟨H2, rfl, S4.out.kept (kept_24 (Kept.refl [w.heap.size, w.heap.size + 1] w4) (Or.inl (by simp)) (Or.inl (by simp)) _ _ _ _ _ _) (fun k hk => by have := HN2.out k hk; simp; omega), HNI.out⟩,
        kept_24 K4.out (Or.inr (Nat.le_refl _)) (Or.inr (Nat.le_succ _)) _ _ _ _ _ _⟩

end Go.Proofs.YtcipkfhpcbddiaaGreat

/- Package record: what it tells. -/
namespace Go.Proofs.YtcipkfhpcbddiaaGreat
open Go.RowKit

/-- A record at cell o of block b. -/
structure RecAt (w : World) (b o : Nat) (l : List St) (H : Nat → Hd) : Prop where
  cell : ∃ arr t, w.heap[b]? = some (.cells arr t (0, 0)) ∧ arr[o]? = some (.slice (H 6).ao l.length (H 6).cap)
  sts : StsIs w l H
theorem RecAt.at {w : World} {b o : Nat} {l : List St} {H : Nat → Hd} (h : RecAt w b o l H) : w.cell? ⟨b, o, none⟩ = some (.slice (H 6).ao l.length (H 6).cap) := by
  obtain ⟨arr, t, h1, h2⟩ := h.cell
  rw [cell_of h1]; exact h2
theorem RecAt.lt {w : World} {b o : Nat} {l : List St} {H : Nat → Hd} (h : RecAt w b o l H) : b < w.heap.size := by
  obtain ⟨arr, t, h1, h2⟩ := h.cell
  exact lt_of_get h1
theorem RecAt.kept {w w' : World} {b o : Nat} {l : List St} {H : Nat → Hd} {S : List Nat} (h : RecAt w b o l H) (k : Kept S w w') (hb : b ∉ S) (hP : ∀ x, InH H x → x ∉ S) : RecAt w' b o l H := by
  obtain ⟨arr, t, h1, h2⟩ := h.cell
  exact ⟨⟨arr, t, k.get h1 hb, h2⟩, h.sts.kept k hP⟩
theorem RecAt.still {w w' : World} {b o : Nat} {l : List St} {H : Nat → Hd} (h : RecAt w b o l H) (k : Kept [] w w') : RecAt w' b o l H := h.kept k (by simp) (by simp)

/-- The array of the statements, and the cells of one. -/
theorem StsIs.stmt {w : World} {l : List St} {H : Nat → Hd} (h : StsIs w l H) (n : Nat) (hn : n < l.length) :
    ∃ g, (H 6).ao = some ⟨g, 0, none⟩ ∧ l.length ≤ (H 6).cap ∧ (H 6).cap ≤ 9223372036854775807 ∧ w.cell? ⟨g, n * 8, none⟩ = some (.int .i64 l[n].kind) ∧ w.cell? ⟨g, n * 8 + 1, none⟩ = some (.string l[n].label) ∧ w.cell? ⟨g, n * 8 + 2, none⟩ = some (.slice (H (10 + 2 * n)).ao l[n].symbols.length (H (10 + 2 * n)).cap) ∧
    w.cell? ⟨g, n * 8 + 3, none⟩ = some (.slice (H (11 + 2 * n)).ao l[n].proof.length (H (11 + 2 * n)).cap) ∧ w.cell? ⟨g, n * 8 + 4, none⟩ = some (.string l[n].fin.file) ∧ w.cell? ⟨g, n * 8 + 5, none⟩ = some (.int .i64 l[n].fin.line) ∧
    w.cell? ⟨g, n * 8 + 6, none⟩ = some (.int .i64 l[n].fin.col) ∧ w.cell? ⟨g, n * 8 + 7, none⟩ = some (.int .i64 l[n].til) := by
  rcases h.own.ways with ⟨_, h0, _⟩ | ⟨g, cur, e1, e2, e3, e4, -⟩
  · have : l.length = 0 := h0
    omega
  · have c := fun j (hj : j < 8) v (hv : (stV l[n] (H (10 + 2 * n)) (H (11 + 2 * n)))[j]? = some v) => h.own.cell e1 (n * 8 + j) v ((stsV_at l H n hn j hj).trans hv)
    exact ⟨g, e1, e3, by unfold maxLen at e4; exact e4, c 0 (by omega) _ rfl, c 1 (by omega) _ rfl, c 2 (by omega) _ rfl, c 3 (by omega) _ rfl, c 4 (by omega) _ rfl, c 5 (by omega) _ rfl, c 6 (by omega) _ rfl, c 7 (by omega) _ rfl⟩

theorem count_any (b o : Nat) (l : List St) (H : Nat → Hd) (w : World) (h : RecAt w b o l H) :
    Calls Tryz.prog 45 #[.pointer (some ⟨b, o, none⟩)] w fun e w' => e = .returned (.int .i64 l.length) ∧ w' = w := by
  have c := h.at
  go_enter Tryz.func45, Tryz.ntmps45
  go_wp2
  go_ret
  exact ⟨rfl, rfl⟩

/-- A statement as a value. -/
def stVal (s : St) (a b : Hd) : Value :=
  .agg #[.int .i64 s.kind, .string s.label, .slice a.ao s.symbols.length a.cap, .slice b.ao s.proof.length b.cap, .string s.fin.file, .int .i64 s.fin.line, .int .i64 s.fin.col, .int .i64 s.til]

set_option maxHeartbeats 800000 in
theorem statement_any (b o k : Nat) (l : List St) (H : Nat → Hd) (w : World) (h : RecAt w b o l H) (hk : k < l.length) :
    Calls Tryz.prog 53 #[.pointer (some ⟨b, o, none⟩), .int .i64 k] w fun e w' => e = .returned (stVal l[k] (H (10 + 2 * k)) (H (11 + 2 * k))) ∧ Kept [] w w' := by
  have c := h.at
  have hbw := h.lt
  obtain ⟨g, e1, e2, e3, c0, c1, c2, c3, c4, c5, c6, c7⟩ := h.sts.stmt k hk
  have hgw := h.sts.own.lt (k := g) (by unfold Hd.blk; rw [e1]; rfl)
  rw [e1] at c
  unfold stVal
  clear h
  go_enter Tryz.func53, Tryz.ntmps53
  go_wp2
  exact bodyPost_ret (v := .agg #[.int .i64 l[k].kind, .string l[k].label, .slice (H (10 + 2 * k)).ao l[k].symbols.length (H (10 + 2 * k)).cap, .slice (H (11 + 2 * k)).ao l[k].proof.length (H (11 + 2 * k)).cap, .string l[k].fin.file, .int .i64 l[k].fin.line, .int .i64 l[k].fin.col, .int .i64 l[k].til])
    (by simp [results, Tryz.results53, go_sem]) rfl ⟨rfl, (Kept.refl _ _).alloc _⟩

/-- Is a statement active (of an assertion: there) at another? -/
def heldF (l : List St) (n a : Nat) : Bool := match l[n]? with | some s => decide (n < a) && (s.til == 0 || decide (a < s.til)) | none => false
theorem held_eq (l : List St) (n a : Nat) (h : n < l.length) : heldF l n a = (decide (n < a) && (l[n].til == 0 || decide (a < l[n].til))) := by
  unfold heldF; rw [List.getElem?_eq_getElem h]

set_option maxHeartbeats 800000 in
theorem holds_any (b o k a : Nat) (l : List St) (H : Nat → Hd) (w : World) (h : RecAt w b o l H) (hk : k < l.length) :
    Calls Tryz.prog 80 #[.pointer (some ⟨b, o, none⟩), .int .i64 k, .int .i64 a] w fun e w' => e = .returned (.bool (heldF l k a)) ∧ w' = w := by
  have c := h.at
  obtain ⟨g, e1, e2, e3, c0, c1, c2, c3, c4, c5, c6, c7⟩ := h.sts.stmt k hk
  clear c0 c1 c2 c3 c4 c5 c6
  rw [e1] at c
  have HE := (show Hid _ from held_eq l k a hk)
  generalize l[k].til = t at *
  clear h
  by_cases h1 : k < a
  · cases h2 : ((t : Int) == 0)
    · have h2' : (t == 0) = false := by cases t <;> simp at h2 ⊢
      have HT : Hid (heldF l k a = decide (a < t)) := by show _ = _; rw [HE.out, h2']; simp [h1]
      clear HE
      go_enter Tryz.func80, Tryz.ntmps80
      go_wp2
      go_ret
      exact ⟨ret_bool (by rw [HT.out]), rfl⟩
    · have h2' : (t == 0) = true := by cases t <;> simp at h2 ⊢ <;> omega
      have HT : Hid (heldF l k a = true) := by show _ = _; rw [HE.out, h2']; simp [h1]
      clear HE
      go_enter Tryz.func80, Tryz.ntmps80
      go_wp2
      go_ret
      exact ⟨ret_bool (by rw [HT.out]), rfl⟩
  · have HT : Hid (heldF l k a = false) := by show _ = _; rw [HE.out]; simp [h1]
    clear HE
    go_enter Tryz.func80, Tryz.ntmps80
    go_wp2
    go_ret
    exact ⟨ret_bool (by rw [HT.out]), rfl⟩

/-- Which statement a proof at a may name by this label. -/
def namesF (l : List St) (lab : ByteArray) (a n : Nat) : Bool := match l[n]? with | some s => (s.label.toList == lab.toList) && !(s.kind == 1) && heldF l n a | none => false
def findHF (l : List St) (lab : ByteArray) (a : Nat) : Option Nat := (List.range l.length).find? (namesF l lab a)
def optV : Option Nat → Int
  | some n => n
  | none => -1
theorem names_eq (l : List St) (lab : ByteArray) (a n : Nat) (h : n < l.length) : namesF l lab a n = ((l[n].label.toList == lab.toList) && !(l[n].kind == 1) && heldF l n a) := by
  unfold namesF; rw [List.getElem?_eq_getElem h]
theorem range_hit {p : Nat → Bool} {n k : Nat} (hk : k < n) (hp : p k = true) (hall : ∀ i, i < k → p i = false) : (List.range n).find? p = some k :=
  List.find?_range_eq_some.2 ⟨hp, by simpa using hk, fun j hj => by simp [hall j hj]⟩
theorem range_none {p : Nat → Bool} {n : Nat} (hall : ∀ i, i < n → p i = false) : (List.range n).find? p = none :=
  List.find?_eq_none.2 (fun i hi => by simp [hall i (by simpa using hi)])

set_option maxHeartbeats 1600000 in
theorem findHolding_any (b o a : Nat) (lab : ByteArray) (l : List St) (H : Nat → Hd) (w : World) (h : RecAt w b o l H) (hl : l.length ≤ 1073741824) :
    Calls Tryz.prog 105 #[.pointer (some ⟨b, o, none⟩), .string lab, .int .i64 a] w fun e w' => e = .returned (.int .i64 (optV (findHF l lab a))) ∧ w' = w := by
  have c := h.at
  go_enter Tryz.func105, Tryz.ntmps105
  go_wp2
  go_loopg [7] l.length (fun g i wr => ∃ k : Nat, k ≤ l.length ∧ g = l.length - k ∧ i = .int .i64 k ∧ Hid (∀ i, i < k → namesF l lab a i = false) ∧ wr = w)
  case atStart => exact ⟨0, by omega, by omega, rfl, fun i hi => by omega, rfl⟩
  case round =>
    obtain ⟨k, hk, hg, rfl, hall, rfl⟩ := hrel
    by_cases hlt : k < l.length
    · obtain ⟨g, e1, e2, e3, c0, c1, c2, c3, c4, c5, c6, c7⟩ := h.sts.stmt k hlt
      clear c2 c3 c4 c5 c6 c7
      rw [e1] at c
      have HN := (show Hid _ from names_eq l lab a k hlt)
      have HH : Hid (RecAt wr b o l H) := h
      generalize l[k].label = lb at *
      generalize l[k].kind = kd at *
      have next : Hid (namesF l lab a k = false → ∀ i, i < k + 1 → namesF l lab a i = false) := by
        intro hf i hi
        by_cases e : i = k
        · subst e; exact hf
        · exact hall.out i (by omega)
      cases hb : (lb.toList == lab.toList)
      · have HF : Hid (namesF l lab a k = false) := by show _ = _; rw [HN.out, hb]; simp
        clear HN h
        go_wp2
        go_roundg (l.length - (k + 1))
        case measure => omega
        case rel => exact ⟨k + 1, by omega, rfl, by go_num, next.out HF.out, rfl⟩
      · cases hd : (kd == 1)
        · have hd' : (kd != 1) = true := by simp [bne, hd]
          cases hh : heldF l k a
          · have HF : Hid (namesF l lab a k = false) := by show _ = _; rw [HN.out, hh]; simp
            clear HN h
            go_wp2_with (go_at_call 80; refine (holds_any b o k a l H _ HH.out hlt).mono ?_; rintro e w1 ⟨rfl, rfl⟩)
            go_roundg (l.length - (k + 1))
            case measure => omega
            case rel => exact ⟨k + 1, by omega, rfl, by go_num, next.out HF.out, rfl⟩
          · have HF : Hid (findHF l lab a = some k) := range_hit hlt (by rw [HN.out, hb, hd, hh]; rfl) hall.out
            clear HN h
            go_wp2_with (go_at_call 80; refine (holds_any b o k a l H _ HH.out hlt).mono ?_; rintro e w1 ⟨rfl, rfl⟩)
            go_ret
            exact ⟨ret_int (by rw [HF.out]; rfl), rfl⟩
        · have hd' : (kd != 1) = false := by simp [bne, hd]
          have HF : Hid (namesF l lab a k = false) := by show _ = _; rw [HN.out, hd]; simp
          clear HN h
          go_wp2
          go_roundg (l.length - (k + 1))
          case measure => omega
          case rel => exact ⟨k + 1, by omega, rfl, by go_num, next.out HF.out, rfl⟩
    · have HF : Hid (findHF l lab a = none) := range_none (fun i hi => hall.out i (by omega))
      clear h
      go_wp2
      go_ret
      exact ⟨ret_int (by rw [HF.out]; rfl), rfl⟩

end Go.Proofs.YtcipkfhpcbddiaaGreat

/- Package frames: the looks. Lists of texts that are only read. -/
namespace Go.Proofs.YtcipkfhpcbddiaaGreat
open Go.RowKit

/-- A list of texts that is only read: a slice of some array. -/
def View (w : World) (h : Hd) (l : List ByteArray) : Prop :=
  l = [] ∨ ∃ g off cur t, h.ao = some ⟨g, off, none⟩ ∧ w.heap[g]? = some (.cells cur t (0, 0)) ∧ (∀ j x, l[j]? = some x → cur[off + j]? = some (.string x)) ∧ l.length ≤ h.cap ∧ h.cap ≤ 9223372036854775807
theorem Owns.view {w : World} {h : Hd} {l : List ByteArray} (o : Owns w h (rowS l)) : View w h l := by
  rcases o.ways with ⟨_, h0, _⟩ | ⟨g, cur, e1, e2, e3, e4, e5, e6⟩
  · exact Or.inl (List.eq_nil_of_length_eq_zero h0)
  · refine Or.inr ⟨g, 0, cur, _, e1, e2, ?_, e3, by unfold maxLen at e4; exact e4⟩
    intro j x hj
    have hjl : j < l.length := (List.getElem?_eq_some_iff.1 hj).1
    have e6' : cur.toList.take (l.length * 1) = strs l := e6
    have : (strs l)[j]? = some (.string x) := by simp [strs, hj]
    rw [← e6', List.getElem?_take] at this
    rw [Nat.zero_add]
    simp at this
    exact this.2
theorem View.kept {w w' : World} {h : Hd} {l : List ByteArray} {S : List Nat} (v : View w h l) (k : Kept S w w') (hS : ∀ x, h.blk = some x → x ∉ S) : View w' h l := by
  rcases v with v | ⟨g, off, cur, t, e1, e2, e3⟩
  · exact Or.inl v
  · exact Or.inr ⟨g, off, cur, t, e1, k.get e2 (hS g (by unfold Hd.blk; rw [e1]; rfl)), e3⟩
theorem View.still {w w' : World} {h : Hd} {l : List ByteArray} (v : View w h l) (k : Kept [] w w') : View w' h l := v.kept k (by simp)

theorem ret_str {a b : ByteArray} (h : a = b) : Ending.returned (.string a) = .returned (.string b) := by rw [h]

set_option maxHeartbeats 400000 in
theorem fhas_any (hd : Hd) (l : List ByteArray) (x : ByteArray) (w : World) (hv : View w hd l) (hl : l.length ≤ 1073741824) :
    Calls Tryz.prog 102 #[.slice hd.ao l.length hd.cap, .string x] w fun e w' => e = .returned (.bool (hasF l x)) ∧ w' = w := by
  obtain ⟨ao, cap⟩ := hd
  rcases hv with rfl | ⟨g, off, cur, t, e1, e2, e3, e4, e5⟩
  · clear hl
    go_enter Tryz.func102, Tryz.ntmps102
    go_wp2
    refine wp_loop_rounds 1 ?_
    rw [rounds_succ]
    go_wp2
    go_ret
    exact ⟨rfl, rfl⟩
  · simp only at e1
    subst e1
    go_enter Tryz.func102, Tryz.ntmps102
    go_wp2
    go_loopg [5] l.length (fun g i wr => ∃ k : Nat, k ≤ l.length ∧ g = l.length - k ∧ i = .int .i64 k ∧ Hid (hasF l x = hasF (l.drop k) x) ∧ wr = w)
    case atStart => exact ⟨0, by omega, by omega, rfl, rfl, rfl⟩
    case round =>
      obtain ⟨k, hk, hg, rfl, hs, rfl⟩ := hrel
      by_cases hlt : k < l.length
      · have c1 : wr.cell? ⟨g, off + k, none⟩ = some (.string l[k]) := (cell_of e2 (off + k)).trans (e3 k l[k] (List.getElem?_eq_getElem hlt))
        cases hb : ((l[k]).toList == x.toList)
        · have HM : Hid (hasF l x = hasF (l.drop (k + 1)) x) := has_miss l x k hlt hs.out hb
          clear hs e3
          go_wp2
          go_roundg (l.length - (k + 1))
          case measure => omega
          case rel => exact ⟨k + 1, by omega, rfl, by go_num, HM, rfl⟩
        · have HM : Hid (hasF l x = true) := has_hit l x k hlt hs.out hb
          clear hs e3
          go_wp2
          go_ret
          exact ⟨ret_bool HM.out.symm, rfl⟩
      · have HM : Hid (hasF l x = false) := has_over l x k hlt hs.out
        clear hs e3
        go_wp2
        go_ret
        exact ⟨ret_bool HM.out.symm, rfl⟩

/-- The first symbol; what a $f types. -/
def typecodeF (s : St) : ByteArray := s.symbols.getD 0 ⟨#[]⟩
def variableF (s : St) : ByteArray := if (s.kind == 2) = true ∧ 2 ≤ s.symbols.length then s.symbols.getD 1 ⟨#[]⟩ else ⟨#[]⟩

theorem getD_at (l : List ByteArray) (k : Nat) (h : k < l.length) : l.getD k ⟨#[]⟩ = l[k] := by rw [List.getD_eq_getElem?_getD, List.getElem?_eq_getElem h]; rfl

set_option maxHeartbeats 800000 in
theorem typecode_any (s : St) (ha hb : Hd) (w : World) (hv : View w ha s.symbols) (hl : s.symbols.length ≤ 1073741824) :
    Calls Tryz.prog 144 #[stVal s ha hb] w fun e w' => e = .returned (.string (typecodeF s)) ∧ Kept [] w w' := by
  unfold stVal
  obtain ⟨ao, cap⟩ := ha
  rcases hv with e0 | ⟨g, off, cur, t, e1, e2, e3, e4, e5⟩
  · have HT : Hid (typecodeF s = ⟨#[]⟩) := by show _ = _; unfold typecodeF; rw [e0]; rfl
    rw [e0]
    simp only [List.length_nil]
    clear hl e0
    go_enter Tryz.func144, Tryz.ntmps144
    go_wp2
    go_ret
    exact ⟨ret_str HT.out.symm, (Kept.refl _ _).alloc _⟩
  · simp only at e1
    subst e1
    by_cases hz : s.symbols.length = 0
    · have hz1 : ((s.symbols.length : Int) == 0) = true := by simp [hz]
      have HT : Hid (typecodeF s = ⟨#[]⟩) := by show _ = _; unfold typecodeF; rw [List.eq_nil_of_length_eq_zero hz]; rfl
      clear hz
      go_enter Tryz.func144, Tryz.ntmps144
      go_wp2
      go_ret
      exact ⟨ret_str HT.out.symm, (Kept.refl _ _).alloc _⟩
    · have hz1 : ((s.symbols.length : Int) == 0) = false := beq_eq_false_iff_ne.2 (by omega)
      have hz2 : 0 < s.symbols.length := by omega
      have HT : Hid (typecodeF s = s.symbols[0]) := getD_at _ _ hz2
      have c1 : w.cell? ⟨g, off, none⟩ = some (.string s.symbols[0]) := (cell_of e2 off).trans (e3 0 _ (List.getElem?_eq_getElem hz2))
      have hgw := lt_of_get e2
      clear e3 hz
      go_enter Tryz.func144, Tryz.ntmps144
      go_wp2
      go_ret
      exact ⟨ret_str HT.out.symm, (Kept.refl _ _).alloc _⟩

set_option maxHeartbeats 800000 in
theorem variable_any (s : St) (ha hb : Hd) (w : World) (hv : View w ha s.symbols) (hl : s.symbols.length ≤ 1073741824) :
    Calls Tryz.prog 89 #[stVal s ha hb] w fun e w' => e = .returned (.string (variableF s)) ∧ Kept [] w w' := by
  unfold stVal
  cases k2 : (s.kind == 2)
  · have k2' : (s.kind != 2) = true := by simp [bne, k2]
    have HT : Hid (variableF s = ⟨#[]⟩) := by show _ = _; unfold variableF; rw [k2]; simp
    go_enter Tryz.func89, Tryz.ntmps89
    go_wp2
    go_ret
    exact ⟨ret_str HT.out.symm, (Kept.refl _ _).alloc _⟩
  · have k2' : (s.kind != 2) = false := by simp [bne, k2]
    by_cases hz : s.symbols.length < 2
    · have HT : Hid (variableF s = ⟨#[]⟩) := by show _ = _; unfold variableF; rw [if_neg (by omega)]
      go_enter Tryz.func89, Tryz.ntmps89
      go_wp2
      go_ret
      exact ⟨ret_str HT.out.symm, (Kept.refl _ _).alloc _⟩
    · have hz2 : 1 < s.symbols.length := by omega
      obtain ⟨ao, cap⟩ := ha
      rcases hv with e0 | ⟨g, off, cur, t, e1, e2, e3, e4, e5⟩
      · rw [e0] at hz2; simp at hz2
      · simp only at e1
        subst e1
        have HT : Hid (variableF s = s.symbols[1]) := by show _ = _; unfold variableF; rw [if_pos ⟨k2, by omega⟩]; exact getD_at _ _ hz2
        have c1 : w.cell? ⟨g, off + 1, none⟩ = some (.string s.symbols[1]) := (cell_of e2 (off + 1)).trans (e3 1 _ (List.getElem?_eq_getElem hz2))
        have hgw := lt_of_get e2
        clear e3
        go_enter Tryz.func89, Tryz.ntmps89
        go_wp2
        go_ret
        exact ⟨ret_str HT.out.symm, (Kept.refl _ _).alloc _⟩

def mandF (s : St) (syms : List ByteArray) : Bool := if (s.kind == 2) = true then hasF syms (variableF s) else (s.kind == 3)

set_option maxHeartbeats 800000 in
theorem isMandatory_any (s : St) (ha hb hd : Hd) (l : List ByteArray) (w : World) (hv : View w ha s.symbols) (hvl : View w hd l) (hl : s.symbols.length ≤ 1073741824) (hl2 : l.length ≤ 1073741824) :
    Calls Tryz.prog 81 #[stVal s ha hb, .slice hd.ao l.length hd.cap] w fun e w' => e = .returned (.bool (mandF s l)) ∧ Kept [] w w' := by
  have VA := fun (w' : World) (hv' : View w' ha s.symbols) => variable_any s ha hb w' hv' hl
  have HVA := (show Hid _ from VA)
  unfold stVal at HVA ⊢
  clear VA
  cases k2 : (s.kind == 2)
  · have HT : Hid (mandF s l = (s.kind == 3)) := by show _ = _; unfold mandF; rw [k2]; simp
    go_enter Tryz.func81, Tryz.ntmps81
    go_wp2
    go_ret
    exact ⟨ret_bool (by rw [HT.out]), (Kept.refl _ _).alloc _⟩
  · have HT : Hid (mandF s l = hasF l (variableF s)) := by show _ = _; unfold mandF; rw [k2]; simp
    go_enter Tryz.func81, Tryz.ntmps81
    go_wp2_with fail
    refine (HVA.out _ (by exact hv.still ((Kept.refl [] _).alloc _))).mono ?_
    rintro e w2 ⟨rfl, hk2⟩
    have hk := ((Kept.refl [] w).alloc _).trans hk2
    go_wp2_with fail
    refine (fhas_any hd l _ _ (by exact hvl.still hk) hl2).mono ?_
    rintro e w3 ⟨rfl, rfl⟩
    go_wp2
    go_ret
    exact ⟨ret_bool (by rw [HT.out]), hk⟩

end Go.Proofs.YtcipkfhpcbddiaaGreat

/- Package frames: which symbols count, which hypotheses are mandatory. -/
namespace Go.Proofs.YtcipkfhpcbddiaaGreat
open Go.RowKit

/-- A record that can be read from data: each statement has a symbol; nothing is long. -/
structure RecOk (l : List St) : Prop where
  len : l.length ≤ 10000
  pos : ∀ i (h : i < l.length), 0 < l[i].symbols.length
  syms : ∀ i (h : i < l.length), l[i].symbols.length ≤ 10000
  prfs : ∀ i (h : i < l.length), l[i].proof.length ≤ 10000

theorem Kept.grown {w wr w1 : World} {b : Option Nat} (K : Kept [] w wr) (g : wr.grownBy w1 b) (hb : ∀ k, b = some k → w.heap.size ≤ k) : Kept [] w w1 :=
  ⟨g.os.trans K.os, g.tape.trans K.tape, g.output.trans K.output, Nat.le_trans K.size g.size, fun k hk _ => (g.block k (Nat.lt_of_lt_of_le hk K.size) (fun e => by have := hb k e.symm; omega)).trans (K.block k hk (by simp))⟩

theorem field_syms (w : World) (k l c u : Int) (lab f : ByteArray) (a1 a2 : Option Addr) (n1 c1 n2 c2 : Nat) :
    (Instr.field 119 (.agg #[.int .i64 k, .string lab, .slice a1 n1 c1, .slice a2 n2 c2, .string f, .int .i64 l, .int .i64 c, .int .i64 u]) 2).run Tryz.prog w = .ok (.slice a1 n1 c1) w := by kernel_rfl
attribute [local go_sem] field_syms

/-- The $e that are active at a. -/
def essF (l : List St) (a n : Nat) : Bool := match l[n]? with | some s => (s.kind == 3) && heldF l n a | none => false
theorem ess_eq (l : List St) (a n : Nat) (h : n < l.length) : essF l a n = ((l[n].kind == 3) && heldF l n a) := by
  unfold essF; rw [List.getElem?_eq_getElem h]
def symsTo (l : List St) (a k : Nat) : List ByteArray := symsAt l a ++ ((List.range k).filter (essF l a)).flatMap (symsAt l)
def symsOfF (l : List St) (a : Nat) : List ByteArray := symsTo l a l.length
theorem symsAt_eq (l : List St) (n : Nat) (h : n < l.length) : symsAt l n = l[n].symbols := by
  unfold symsAt; rw [List.getElem?_eq_getElem h]
theorem symsTo_zero (l : List St) (a : Nat) : symsTo l a 0 = symsAt l a := by unfold symsTo; rw [List.range_zero]; rw [List.filter_nil, List.flatMap_nil, List.append_nil]
theorem symsTo_yes (l : List St) (a k : Nat) (h : essF l a k = true) : symsTo l a (k + 1) = symsTo l a k ++ symsAt l k := by
  unfold symsTo; rw [List.range_succ, List.filter_append]; simp [h]
theorem symsTo_no (l : List St) (a k : Nat) (h : essF l a k = false) : symsTo l a (k + 1) = symsTo l a k := by
  unfold symsTo; rw [List.range_succ, List.filter_append]; simp [h]
theorem symsTo_len (l : List St) (a k : Nat) (ok : RecOk l) (ha : a < l.length) (hk : k ≤ l.length) : (symsTo l a k).length ≤ 10000 + k * 10000 := by
  induction k with
  | zero =>
    have := ok.syms a ha
    have e := congrArg List.length (symsTo_zero l a)
    have e2 := congrArg List.length (symsAt_eq l a ha)
    omega
  | succ k ih =>
    have := ih (by omega)
    cases h : essF l a k with
    | true =>
      have e := congrArg List.length (symsTo_yes l a k h)
      have e2 := congrArg List.length (symsAt_eq l k (by omega))
      have := ok.syms k (by omega)
      rw [List.length_append] at e
      omega
    | false =>
      have e := congrArg List.length (symsTo_no l a k h)
      omega

set_option maxHeartbeats 2000000 in
set_option maxRecDepth 100000 in
theorem symbolsOf_any (b o a : Nat) (l : List St) (H : Nat → Hd) (w : World) (h : RecAt w b o l H) (ha : a < l.length) (ok : RecOk l) :
    Calls Tryz.prog 79 #[.pointer (some ⟨b, o, none⟩), .int .i64 a] w fun e w' => ∃ hd : Hd, e = .returned (.slice hd.ao (symsOfF l a).length hd.cap) ∧ Owns w' hd (rowS (symsOfF l a)) ∧ (∀ k, hd.blk = some k → w.heap.size ≤ k) ∧ Kept [] w w' := by
  obtain ⟨i0, hi, hz0, hz1, hz2⟩ := info_parts infoS
  have hlen := ok.len
  have hbw := h.lt
  go_enter Tryz.func79, Tryz.ntmps79
  go_wp2_with fail
  refine (statement_any b o a l H _ h ha).mono ?_
  rintro e w1 ⟨rfl, hk1⟩
  have h1 := h.still hk1
  have O1 := h1.sts.syms a l[a] (List.getElem?_eq_getElem ha)
  have hp := ok.pos a ha
  have hm := ok.syms a ha
  rcases O1.ways with ⟨_, h0, _⟩ | ⟨g1, cur1, e1, -⟩
  · have : l[a].symbols.length = 0 := h0
    omega
  · unfold stVal
    rw [e1]
    have hsrc : Hid (∀ j u, (strs l[a].symbols)[j]? = some u → w1.cell? ((⟨g1, 0, none⟩ : Addr).add j) = some u) := fun j u hj => by rw [addr_add]; exact O1.cell e1 j u hj
    have ES : Hid (symsTo l a 0 = l[a].symbols) := by show _ = _; rw [symsTo_zero]; exact symsAt_eq l a ha
    have HO : Hid (Owns w1 ⟨none, 0⟩ (rowS [])) := World.ownsRow_nil _ _ _ _
    clear O1
    go_wp2_with (at_builtin; refine wpList_append_row _ rfl (.tmp 8) (.tmp 12) 22 rfl i0 (.string ⟨#[]⟩) 16 ⟨none, 0⟩ (rowS []) Tryz.underlying22 hi hz0 hz1 hz2 rfl Nat.one_pos rfl HO.out ⟨g1, 0, none⟩ l[a].symbols.length (H (10 + 2 * a)).cap (strs l[a].symbols) rfl ?c0 hsrc.out (strs_one _) hp ?c3 ?c4 ?_)
    case c0 => simp [strs, rowS]
    case c3 => simp only [rowS, List.length_nil]; unfold maxLen; omega
    case c4 => simp only [rowS, List.length_nil]; omega
    intro g cap' w2 hw2 hgr hfresh
    rw [rowS_more [] l[a].symbols, List.nil_append, ← ES.out] at hw2
    have hK2 : Kept [] w w2 := hk1.grown hgr (by simp [Hd.blk])
    have hg2 : w.heap.size ≤ g := by
      rcases hfresh with e | e
      · simp [Hd.blk] at e
      · exact Nat.le_trans hk1.size e
    have hEl : Hid ((rowS []).n + l[a].symbols.length = (symsTo l a 0).length) := by show _ = _; rw [ES.out]; simp [rowS]
    rw [hEl.out]
    clear hsrc HO hgr hfresh h1 hk1 e1 hp hm hEl ES
    go_wp2
    go_loopg [5, 6] l.length (fun gk sv i wr => ∃ (k : Nat) (hd : Hd), k ≤ l.length ∧ gk = l.length - k ∧ i = .int .i64 k ∧ sv = .slice hd.ao (symsTo l a k).length hd.cap ∧ Owns wr hd (rowS (symsTo l a k)) ∧ (∀ x, hd.blk = some x → w.heap.size ≤ x) ∧ Kept [] w wr)
    case atStart => exact ⟨0, ⟨some ⟨g, 0, none⟩, cap'⟩, by omega, by omega, rfl, rfl, hw2, by intro x hx; simp [Hd.blk] at hx; omega, hK2⟩
    case round =>
      obtain ⟨k, hd, hk, hg, rfl, rfl, hO, hN, hK⟩ := hrel
      have hr := h.still hK
      clear hw2 hK2
      by_cases hlt : k < l.length
      · have hsl := symsTo_len l a k ok ha (by omega)
        have HES := (show Hid _ from ess_eq l a k hlt)
        have hsk := ok.syms k hlt
        have hpk := ok.pos k hlt
        have OK' := hr.sts.syms k l[k] (List.getElem?_eq_getElem hlt)
        rcases OK'.ways with ⟨_, h0, _⟩ | ⟨gk', curk, ek, -⟩
        · have : l[k].symbols.length = 0 := h0
          omega
        · have SY : Hid (symsAt l k = l[k].symbols) := symsAt_eq l k hlt
          cases hkd : (l[k].kind == 3)
          · have HT : Hid (symsTo l a (k + 1) = symsTo l a k) := symsTo_no l a k (by rw [HES.out, hkd]; rfl)
            clear HES OK'
            go_wp2_with (first | (go_at_call 45; refine (count_any b o l H _ (by exact hr)).mono ?_; rintro e w3 ⟨rfl, rfl⟩) | (go_at_call 53; refine (statement_any b o k l H _ (by exact hr) hlt).mono ?_; rintro e w3 ⟨rfl, hk3⟩; unfold stVal))
            go_roundg (l.length - (k + 1))
            case measure => omega
            case rel => exact ⟨k + 1, hd, by omega, rfl, by go_num, by rw [HT.out], by rw [HT.out]; exact hO.moved (fun x hx => (hk3.trans ((Kept.refl [] _).alloc _)).block x (hO.lt hx) (by simp)), hN, (hK.trans hk3).alloc _⟩
          · go_wp2_with (first | (go_at_call 45; refine (count_any b o l H _ (by exact hr)).mono ?_; rintro e wc ⟨rfl, rfl⟩) | (go_at_call 53; refine (statement_any b o k l H _ (by exact hr) hlt).mono ?_; rintro e w3 ⟨rfl, hk3⟩; unfold stVal))
            obtain ⟨W4, hW4⟩ : ∃ W4, W4 = w3.alloc (.cells #[.int .i64 l[k].kind, .string l[k].label, .slice (some ⟨gk', 0, none⟩) l[k].symbols.length (H (10 + 2 * k)).cap, .slice (H (11 + 2 * k)).ao l[k].proof.length (H (11 + 2 * k)).cap, .string l[k].fin.file, .int .i64 l[k].fin.line, .int .i64 l[k].fin.col, .int .i64 l[k].til] 119) := ⟨_, rfl⟩
            rw [← hW4]
            have k4 : Kept [] wc W4 := by rw [hW4]; exact hk3.alloc _
            have B4 : W4.heap[w3.heap.size]? = some (.cells #[.int .i64 l[k].kind, .string l[k].label, .slice (some ⟨gk', 0, none⟩) l[k].symbols.length (H (10 + 2 * k)).cap, .slice (H (11 + 2 * k)).ao l[k].proof.length (H (11 + 2 * k)).cap, .string l[k].fin.file, .int .i64 l[k].fin.line, .int .i64 l[k].fin.col, .int .i64 l[k].til] 119 (0, 0)) := by rw [hW4]; exact heap_alloc_new _ _
            have q2 : W4.cell? ⟨w3.heap.size, 2, none⟩ = some (.slice (some ⟨gk', 0, none⟩) l[k].symbols.length (H (10 + 2 * k)).cap) := by rw [cell_of B4]; rfl
            have hr4 := hr.still k4
            have hO4 : Owns W4 hd (rowS (symsTo l a k)) := hO.moved (fun x hx => k4.block x (hO.lt hx) (by simp))
            have OK4 := hr4.sts.syms k l[k] (List.getElem?_eq_getElem hlt)
            have hK4 := hK.trans k4
            have hsrc : Hid (∀ j u, (strs l[k].symbols)[j]? = some u → W4.cell? ((⟨gk', 0, none⟩ : Addr).add j) = some u) := fun j u hj => by rw [addr_add]; exact OK4.cell ek j u hj
            clear hW4 hk3 k4 B4 hr hO OK' OK4 hK
            cases hh : heldF l k a
            · have HT : Hid (symsTo l a (k + 1) = symsTo l a k) := symsTo_no l a k (by rw [HES.out, hh]; simp)
              clear HES
              go_wp2_with (go_at_call 80; refine (holds_any b o k a l H _ (by exact hr4) hlt).mono ?_; rintro e w5 ⟨rfl, rfl⟩)
              go_roundg (l.length - (k + 1))
              case measure => omega
              case rel => exact ⟨k + 1, hd, by omega, rfl, by go_num, by rw [HT.out], by rw [HT.out]; exact hO4, hN, hK4⟩
            · have HT : Hid (symsTo l a (k + 1) = symsTo l a k ++ l[k].symbols) := by show _ = _; rw [symsTo_yes l a k (by rw [HES.out, hkd, hh]; rfl), SY.out]
              clear HES SY
              go_wp2_with (first | (go_at_call 80; refine (holds_any b o k a l H _ (by exact hr4) hlt).mono ?_; rintro e w5 ⟨rfl, rfl⟩) | (at_builtin; refine wpList_append_row _ rfl (.tmp 32) (.tmp 34) 22 rfl i0 (.string ⟨#[]⟩) 16 hd (rowS (symsTo l a k)) Tryz.underlying22 hi hz0 hz1 hz2 rfl Nat.one_pos rfl (by exact hO4) ⟨gk', 0, none⟩ l[k].symbols.length (H (10 + 2 * k)).cap (strs l[k].symbols) rfl ?d0 hsrc.out (strs_one _) hpk ?d3 ?d4 ?_))
              case d0 => simp [strs, rowS]
              case d3 => simp only [rowS]; unfold maxLen; omega
              case d4 => simp only [rowS]; omega
              intro g5 cap5 w5 hw5 hgr5 hfresh5
              rw [rowS_more (symsTo l a k) l[k].symbols, ← HT.out] at hw5
              have hK5 := hK4.grown hgr5 hN
              have hg5 : w.heap.size ≤ g5 := by
                rcases hfresh5 with e | e
                · exact hN g5 e
                · exact Nat.le_trans hK4.size e
              have hEl : Hid ((rowS (symsTo l a k)).n + l[k].symbols.length = (symsTo l a (k + 1)).length) := by show _ = _; rw [HT.out]; simp [rowS]
              rw [hEl.out]
              clear hsrc hgr5 hfresh5 q2 hO4
              go_wp2
              go_roundg (l.length - (k + 1))
              case measure => omega
              case rel => exact ⟨k + 1, ⟨some ⟨g5, 0, none⟩, cap5⟩, by omega, rfl, by go_num, rfl, hw5, by intro x hx; simp [Hd.blk] at hx; omega, hK5⟩
      · have e : k = l.length := by omega
        subst e
        go_wp2_with (go_at_call 45; refine (count_any b o l H _ (by exact hr)).mono ?_; rintro e w3 ⟨rfl, rfl⟩)
        go_ret
        exact ⟨hd, rfl, hO, hN, hK⟩

end Go.Proofs.YtcipkfhpcbddiaaGreat

/- Package frames: Hypotheses. -/
namespace Go.Proofs.YtcipkfhpcbddiaaGreat
open Go.RowKit

def mandAt (l : List St) (syms : List ByteArray) (a n : Nat) : Bool := match l[n]? with | some s => heldF l n a && mandF s syms | none => false
theorem mandAt_eq (l : List St) (syms : List ByteArray) (a n : Nat) (h : n < l.length) : mandAt l syms a n = (heldF l n a && mandF l[n] syms) := by
  unfold mandAt; rw [List.getElem?_eq_getElem h]
def hypsTo (l : List St) (a k : Nat) : List Nat := (List.range k).filter (mandAt l (symsOfF l a) a)
/-- The mandatory hypotheses of a, by their numbers. -/
def hypsF (l : List St) (a : Nat) : List Nat := hypsTo l a l.length
theorem hypsTo_yes (l : List St) (a k : Nat) (h : mandAt l (symsOfF l a) a k = true) : hypsTo l a (k + 1) = hypsTo l a k ++ [k] := by
  unfold hypsTo; rw [List.range_succ, List.filter_append]; simp [h]
theorem hypsTo_no (l : List St) (a k : Nat) (h : mandAt l (symsOfF l a) a k = false) : hypsTo l a (k + 1) = hypsTo l a k := by
  unfold hypsTo; rw [List.range_succ, List.filter_append]; simp [h]
theorem hypsTo_len (l : List St) (a k : Nat) : (hypsTo l a k).length ≤ k := by
  unfold hypsTo
  have := List.length_filter_le (mandAt l (symsOfF l a) a) (List.range k)
  simpa using this
theorem symsOf_len (l : List St) (a : Nat) (ok : RecOk l) (ha : a < l.length) : (symsOfF l a).length ≤ 1073741824 := by
  have h1 := symsTo_len l a l.length ok ha (Nat.le_refl _)
  have h2 := ok.len
  have h3 : l.length * 10000 ≤ 10000 * 10000 := Nat.mul_le_mul_right _ h2
  unfold symsOfF
  omega

set_option maxHeartbeats 2000000 in
set_option maxRecDepth 100000 in
theorem hypotheses_any (b o a : Nat) (l : List St) (H : Nat → Hd) (w : World) (h : RecAt w b o l H) (ha : a < l.length) (ok : RecOk l) :
    Calls Tryz.prog 66 #[.pointer (some ⟨b, o, none⟩), .int .i64 a] w fun e w' => ∃ hd : Hd, e = .returned (.slice hd.ao (hypsF l a).length hd.cap) ∧ Owns w' hd (rowN (hypsF l a)) ∧ (∀ k, hd.blk = some k → w.heap.size ≤ k) ∧ Kept [] w w' := by
  obtain ⟨i0, hi, hz0, hz1, hz2⟩ := info_parts infoN
  have hlen := ok.len
  have hbw := h.lt
  have hsyl := symsOf_len l a ok ha
  go_enter Tryz.func66, Tryz.ntmps66
  go_wp2_with fail
  refine (symbolsOf_any b o a l H _ h ha ok).mono ?_
  rintro e w1 ⟨hy, rfl, hOy, hNy, hk1⟩
  go_wp2
  go_loopg [5, 7] l.length (fun gk sv i wr => ∃ (k : Nat) (hd : Hd), k ≤ l.length ∧ gk = l.length - k ∧ i = .int .i64 k ∧ sv = .slice hd.ao (hypsTo l a k).length hd.cap ∧ Owns wr hd (rowN (hypsTo l a k)) ∧ (∀ x, hd.blk = some x → w1.heap.size ≤ x) ∧ Kept [] w1 wr)
  case atStart => exact ⟨0, ⟨none, 0⟩, by omega, by omega, rfl, rfl, World.ownsRow_nil _ _ _ _, by intro x hx; simp [Hd.blk] at hx, Kept.refl _ _⟩
  case round =>
    obtain ⟨k, hd, hk, hg, rfl, rfl, hO, hN, hK⟩ := hrel
    have hr := (h.still hk1).still hK
    have hVy : View wr hy (symsOfF l a) := (hOy.view).still hK
    have hhl := hypsTo_len l a k
    by_cases hlt : k < l.length
    · have HM := (show Hid _ from mandAt_eq l (symsOfF l a) a k hlt)
      have hsk := ok.syms k hlt
      have hVk := (hr.sts.syms k l[k] (List.getElem?_eq_getElem hlt)).view
      cases hh : heldF l k a
      · have HT : Hid (hypsTo l a (k + 1) = hypsTo l a k) := hypsTo_no l a k (by rw [HM.out, hh]; rfl)
        clear HM hVk hVy
        go_wp2_with (first | (go_at_call 45; refine (count_any b o l H _ (by exact hr)).mono ?_; rintro e wc ⟨rfl, rfl⟩) | (go_at_call 80; refine (holds_any b o k a l H _ (by exact hr) hlt).mono ?_; rintro e wd ⟨rfl, rfl⟩))
        go_roundg (l.length - (k + 1))
        case measure => omega
        case rel => exact ⟨k + 1, hd, by omega, rfl, by go_num, by rw [HT.out], by rw [HT.out]; exact hO, hN, hK⟩
      · have ME := fun (w' : World) (v1 : View w' (H (10 + 2 * k)) l[k].symbols) (v2 : View w' hy (symsOfF l a)) => isMandatory_any l[k] (H (10 + 2 * k)) (H (11 + 2 * k)) hy (symsOfF l a) w' v1 v2 (by omega) hsyl
        have HME := (show Hid _ from ME)
        clear ME
        cases hm : mandF l[k] (symsOfF l a)
        · have HT : Hid (hypsTo l a (k + 1) = hypsTo l a k) := hypsTo_no l a k (by rw [HM.out, hm]; simp)
          rw [hm] at HME
          clear HM
          go_wp2_with (first | (go_at_call 45; refine (count_any b o l H _ (by exact hr)).mono ?_; rintro e wc ⟨rfl, rfl⟩) | (go_at_call 80; refine (holds_any b o k a l H _ (by exact hr) hlt).mono ?_; rintro e wd ⟨rfl, rfl⟩) | (go_at_call 53; refine (statement_any b o k l H _ (by exact hr) hlt).mono ?_; rintro e w3 ⟨rfl, hk3⟩) | (go_at_call 81; refine (HME.out _ (by exact hVk.still hk3) (by exact hVy.still hk3)).mono ?_; rintro e w4 ⟨rfl, hk4⟩))
          go_roundg (l.length - (k + 1))
          case measure => omega
          case rel => exact ⟨k + 1, hd, by omega, rfl, by go_num, by rw [HT.out], by rw [HT.out]; exact hO.moved (fun x hx => (hk3.trans hk4).block x (hO.lt hx) (by simp)), hN, (hK.trans hk3).trans hk4⟩
        · have HT : Hid (hypsTo l a (k + 1) = hypsTo l a k ++ [k]) := hypsTo_yes l a k (by rw [HM.out, hh, hm]; rfl)
          rw [hm] at HME
          clear HM
          go_wp2_with (first | (go_at_call 45; refine (count_any b o l H _ (by exact hr)).mono ?_; rintro e wc ⟨rfl, rfl⟩) | (go_at_call 80; refine (holds_any b o k a l H _ (by exact hr) hlt).mono ?_; rintro e wd ⟨rfl, rfl⟩) | (go_at_call 53; refine (statement_any b o k l H _ (by exact hr) hlt).mono ?_; rintro e w3 ⟨rfl, hk3⟩) | (go_at_call 81; refine (HME.out _ (by exact hVk.still hk3) (by exact hVy.still hk3)).mono ?_; rintro e w4 ⟨rfl, hk4⟩; have hO4 := hO.moved (fun x hx => ((hk3.trans hk4).alloc (.cells #[.int .i64 k] 3)).block x (hO.lt hx) (by simp))) | (at_builtin; refine wpList_append_row _ rfl (.tmp 28) (.tmp 30) 45 rfl i0 (.int .i64 0) 8 hd (rowN (hypsTo l a k)) Tryz.underlying45 hi hz0 hz1 hz2 rfl Nat.one_pos rfl (by exact hO4) ⟨_, 0, none⟩ 1 1 [.int .i64 k] rfl rfl ?d1 ?d2 Nat.one_pos ?d3 ?d4 ?_))
          case d1 => intro j u hj; match j, hj with | 0, hj => simp at hj; subst hj; simp [Addr.add]
          case d2 => intro u hu; simp at hu; subst hu; rfl
          case d3 => simp only [rowN]; unfold maxLen; omega
          case d4 => simp only [rowN]; omega
          intro g5 cap5 w5 hw5 hgr5 hfresh5
          rw [rowN_snoc (hypsTo l a k) k, ← HT.out] at hw5
          have hK4 := ((hK.trans hk3).trans hk4).alloc (.cells #[.int .i64 k] 3)
          have hK5 := hK4.grown hgr5 hN
          have hg5 : w1.heap.size ≤ g5 := by
            rcases hfresh5 with e | e
            · exact hN g5 e
            · have := hK4.size; simp at e this; omega
          have hEl : Hid ((rowN (hypsTo l a k)).n + 1 = (hypsTo l a (k + 1)).length) := by show _ = _; rw [HT.out]; simp [rowN]
          rw [hEl.out]
          clear hgr5 hfresh5 hO4
          go_wp2
          go_roundg (l.length - (k + 1))
          case measure => omega
          case rel => exact ⟨k + 1, ⟨some ⟨g5, 0, none⟩, cap5⟩, by omega, rfl, by go_num, rfl, hw5, by intro x hx; simp [Hd.blk] at hx; omega, hK5⟩
    · have e : k = l.length := by omega
      subst e
      have hK' := hk1.trans hK
      have hs1 := hk1.size
      go_wp2_with (go_at_call 45; refine (count_any b o l H _ (by exact hr)).mono ?_; rintro e w3 ⟨rfl, rfl⟩)
      go_ret
      exact ⟨hd, rfl, hO, fun x hx => Nat.le_trans hs1 (hN x hx), hK'⟩

end Go.Proofs.YtcipkfhpcbddiaaGreat
