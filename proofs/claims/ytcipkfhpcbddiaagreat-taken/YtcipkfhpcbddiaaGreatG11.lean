/- Our texts: Read2, Read3, Read4, Read5, Read6, Rec1. -/
import Derived.BigQuiet
import Derived.Test.YtcipkfhpcbddiaaGreatG10
/- Package reader: include. -/
namespace Go.Proofs.YtcipkfhpcbddiaaGreat
open Go.RowKit
attribute [local go_sem] build_fault build_nofault

/-- What readFile must say of every file that an inclusion may name. -/
def FileSays (b v : Nat) (fs : List (ByteArray × ByteArray)) (f j : Nat) (bg : List Bool) (d : Db) (H : Nat → Hd) (w : World) : Prop :=
  Calls Tryz.prog 50 #[.pointer (some ⟨b, 0, none⟩), .int .i64 j] w fun e w' => e = .returned (fltV (fileR fs f j bg d).1) ∧ ∃ H', DbIs w' b 113 (preOf v (fileR fs f j bg d).2.1) [] (fileR fs f j bg d).2.2 H' ∧ Turned b w H w' H'

/-- The end of a call that answers a fault, the scanner having moved. -/
theorem flt_moved {w w2 : World} {b t sp F : Nat} {pre post : List Value} {d : Db} {H H2 : Nat → Hd} (D : DbIs w2 b t pre post d H2) (T : Moved b sp w H w2 H2) (h1 : w.heap.size ≤ F) (h2 : b ≠ F) (h3 : ¬ InH H2 F) (a0 a1 a2 a3 : Value) :
    DbIs ((((w2.setCell ⟨F, 0, none⟩ a0).setCell ⟨F, 1, none⟩ a1).setCell ⟨F, 2, none⟩ a2).setCell ⟨F, 3, none⟩ a3) b t pre post d H2 ∧
    Moved b sp w H ((((w2.setCell ⟨F, 0, none⟩ a0).setCell ⟨F, 1, none⟩ a1).setCell ⟨F, 2, none⟩ a2).setCell ⟨F, 3, none⟩ a3) H2 :=
  ⟨D.kept (four_in _ _ _ _) (by simpa using h2) (fun x hx => by simp; rintro rfl; exact h3 hx), T.beyond (four_in _ _ _ _) (by simpa using h1)⟩

theorem itemFlt_cells (n s : ByteArray) (t : ByteArray) (u : Int) (f : Bool) (p : Nat) : fltV (itemFlt n s ⟨t, u, f, p⟩) = .agg #[.int .i64 (if f = true then 7 else u), .string n, .int .i64 (lineAt s p), .int .i64 (colAt s p)] := rfl

/-- What stands on the way through an inclusion. -/
structure IncSt (w w' : World) (b v tt sp z : Nat) (fs : List (ByteArray × ByteArray)) (more : List Value) (bg : List Bool) (d : Db) (H : Nat → Hd) (n s : ByteArray) : Prop where
  D : DbIs w' b 113 (preOf v bg) [] d H
  TB : TabAt w' v tt fs more
  SC : ScanAt w' sp n s z
  F : w'.heap[w.heap.size + 1]? = some (.cells zeroFault 41 (0, 0))
  M : Moved b sp w H w' H
theorem IncSt.still {w w1 w2 : World} {b v tt sp z : Nat} {fs : List (ByteArray × ByteArray)} {more : List Value} {bg : List Bool} {d : Db} {H : Nat → Hd} {n s : ByteArray} (S : IncSt w w1 b v tt sp z fs more bg d H n s) (k : Kept [] w1 w2) : IncSt w w2 b v tt sp z fs more bg d H n s :=
  ⟨S.D.still k, S.TB.kept k (by simp), S.SC.kept k (by simp), k.get S.F (by simp), S.M.still k⟩
theorem IncSt.next {w w1 w2 : World} {b v tt sp z z' : Nat} {fs : List (ByteArray × ByteArray)} {more : List Value} {bg : List Bool} {d : Db} {H : Nat → Hd} {n s : ByteArray} (S : IncSt w w1 b v tt sp z fs more bg d H n s) (k : Kept [sp] w1 w2) (SC : ScanAt w2 sp n s z')
    (h1 : sp ≠ b) (h2 : v ≠ sp) (h3 : ¬ InH H sp) (h4 : sp < w.heap.size) : IncSt w w2 b v tt sp z' fs more bg d H n s :=
  ⟨S.D.kept k (by simpa using fun e => h1 e.symm) (by intro x hx; simp; rintro rfl; exact h3 hx), S.TB.kept k (by simpa using h2), SC, k.get S.F (by simp; omega), S.M.scan k⟩

set_option maxHeartbeats 4000000 in
set_option maxRecDepth 100000 in
theorem include_any (b v tt sp f x z : Nat) (fs : List (ByteArray × ByteArray)) (more : List Value) (bg : List Bool) (hbg : bg.length = 4) (d : Db) (H : Nat → Hd) (n s : ByteArray) (l c : Int) (w : World)
    (h : DbIs w b 113 (preOf v bg) [] d H) (hn : fileNm fs x = n) (hsd : fileDt fs x = s) (hs : s.size ≤ 1024) (hz : z ≤ s.size) (hsc : ScanAt w sp n s z) (ht : TabAt w v tt fs more)
    (hspb : sp ≠ b) (hvs : v ≠ sp) (hsi : ¬ InH H sp)
    (RF : Hid (∀ (j : Nat) (w' : World), j < fs.length → DbIs w' b 113 (preOf v bg) [] d H → TabAt w' v tt fs more → FileSays b v fs f j bg d H w')) :
    Calls Tryz.prog 76 #[.pointer (some ⟨b, 0, none⟩), .pointer (some ⟨sp, 0, none⟩), .agg #[.string n, .int .i64 l, .int .i64 c]] w fun e w' =>
      e = .returned (fltV (incR (fileR fs f) fs x z ⟨n, l, c⟩ bg d).1.1) ∧ ∃ H', DbIs w' b 113 (preOf v (incR (fileR fs f) fs x z ⟨n, l, c⟩ bg d).1.2.1) [] (incR (fileR fs f) fs x z ⟨n, l, c⟩ bg d).1.2.2 H' ∧ Moved b sp w H w' H' ∧
        (((incR (fileR fs f) fs x z ⟨n, l, c⟩ bg d).1.1.1 == 0) = true → ScanAt w' sp n s (incR (fileR fs f) fs x z ⟨n, l, c⟩ bg d).2) := by
  obtain ⟨W, hW⟩ : ∃ W, W = ((w.alloc (.cells #[.string n, .int .i64 l, .int .i64 c] 39)).alloc (.cells #[.int .i64 0, .string ⟨#[]⟩, .int .i64 0, .int .i64 0] 41)) := ⟨_, rfl⟩
  have hK : Kept [] w W := by rw [hW]; exact ((Kept.refl [] w).alloc _).alloc _
  have hbw := h.lt
  have hspw := lt_of_get hsc
  have hvw := ht.lt
  have D : DbIs W b 113 (preOf v bg) [] d H := h.still hK
  have SC : ScanAt W sp n s z := hsc.kept hK (by simp)
  have TB : TabAt W v tt fs more := ht.kept hK (by simp)
  have hP : W.heap[w.heap.size]? = some (.cells #[.string n, .int .i64 l, .int .i64 c] 39 (0, 0)) := by
    rw [hW]; exact ((Kept.refl [] _).alloc _).get (heap_alloc_new _ _) (by simp)
  have hF : W.heap[w.heap.size + 1]? = some (.cells zeroFault 41 (0, 0)) := by
    rw [hW]
    have := heap_alloc_new (w.alloc (.cells #[.string n, .int .i64 l, .int .i64 c] 39)) (.cells #[.int .i64 0, .string ⟨#[]⟩, .int .i64 0, .int .i64 0] 41)
    simpa [zeroFault] using this
  have HNI : Hid (∀ k, w.heap.size ≤ k → ¬ InH H k) := fun k hk hm => by have := h.inlt hm; omega
  have HW := (show Hid _ from hW.symm)
  have hW2 := lt_of_get hF
  have MK : Hid (Moved b sp w H W H) := (Moved.refl b sp w H).still hK
  clear hW h hsc ht
  have HI : Hid (incR (fileR fs f) fs x z ⟨n, l, c⟩ bg d = match incF fs x z ⟨n, l, c⟩ d with | .inl q => ((q, bg, d), z) | .inr (j, z') => (fileR fs f j bg d, z')) := rfl
  have HJ : Hid (incF fs x z ⟨n, l, c⟩ d = _) := (show incF fs x z ⟨n, l, c⟩ d = _ from by unfold incF; rw [hn, hsd])
  cases ho : openF d
  · have nl1 := nextF_le s z hz
    have tx1 := nextF_text s z hs
    have nl2 := nextF_le s (nextF s z).2 nl1.2.1
    have hfl := findF_le (nextF s z).1.text fs
    generalize hr1 : nextF s z = r1 at *
    obtain ⟨⟨t1, u1, f1, p1⟩, z1⟩ := r1
    simp only at nl1 tx1 nl2 hfl HJ
    have tx2 := nextF_text s z1 hs
    generalize hr2 : nextF s z1 = r2 at *
    obtain ⟨⟨t2, u2, f2, p2⟩, z2⟩ := r2
    simp only at nl2 tx2 HJ
    rw [ho] at HJ
    have S0 : IncSt w W b v tt sp z fs more bg d H n s := ⟨D, TB, SC, hF, MK.out⟩
    go_enter Tryz.func76, Tryz.ntmps76
    go_upto_region 1 with fail
    rw [HW.out]
    go_wp2_with fail
    refine (open_any b 113 5 (preOf v bg) [] d H _ D (preOf_len v bg hbg)).mono ?_
    rintro e w1 ⟨rfl, hw1⟩
    subst hw1
    rw [ho]
    go_wp2_with fail
    refine (next_any sp z n s _ hs hz SC).mono ?_
    rintro e w2 ⟨rfl, SC2, hk2⟩
    rw [hr1] at SC2 ⊢
    simp only [itemV] at SC2 ⊢
    have S2 := S0.next hk2 SC2 hspb hvs hsi hspw
    obtain ⟨W3, hW3⟩ : ∃ W3, W3 = w2.alloc (.cells #[.string t1, .int .i64 u1, .bool f1, .string n, .int .i64 (lineAt s p1), .int .i64 (colAt s p1)] 133) := ⟨_, rfl⟩
    have HW3 := (show Hid _ from hW3.symm)
    have S3 : IncSt w W3 b v tt sp z1 fs more bg d H n s := by rw [hW3]; exact S2.still ((Kept.refl [] _).alloc _)
    have I3 : ItemAt W3 w2.heap.size n s ⟨t1, u1, f1, p1⟩ := by rw [hW3]; exact heap_alloc_new _ _
    clear hW3 S0 S2 SC2 hk2 D TB SC hP hF hK HW hr1
    go_upto_region 4 with fail
    rw [HW3.out]
    clear HW3
    obtain ⟨a0, a1, a2, a3, a4, a5⟩ := I3.cells
    go_wp2_with fail
    refine (isWord_any t1 n u1 (lineAt s p1) (colAt s p1) f1 _).mono ?_
    rintro e w4 ⟨rfl, hk4⟩
    have S4 := S3.still hk4
    have I4 := I3.kept hk4 (by simp)
    clear a0 a1 a2 a3 a4 a5 S3 I3 hk4
    obtain ⟨a0, a1, a2, a3, a4, a5⟩ := I4.cells
    have hb2 := lt_of_get I4
    have hF4w := lt_of_get S4.F
    cases hw1 : (u1 == 0 && !f1)
    · have HT : Hid (incR (fileR fs f) fs x z ⟨n, l, c⟩ bg d = ((itemFlt n s ⟨t1, u1, f1, p1⟩, bg, d), z)) := by
        show _ = _; rw [HI.out, HJ.out]; simp [isWordF, hw1]
      clear HI HJ
      go_wp2_with fail
      refine (faultOf_any t1 n u1 (lineAt s p1) (colAt s p1) f1 _).mono ?_
      rintro e w5 ⟨rfl, hk5⟩
      obtain ⟨q, hq⟩ : ∃ q : Int, Hid ((if f1 = true then (7 : Int) else u1) = q) := ⟨_, rfl⟩
      rw [hq.out]
      have S5 := S4.still hk5
      obtain ⟨j0, j1, j2, j3⟩ := zero_cells S5.F
      have y := free_of S5.F
      have HA' := (show Hid _ from fun a0 a1 a2 a3 => flt_moved S5.D S5.M (F := w.heap.size + 1) (by omega) (by omega) (HNI.out _ (by omega)) a0 a1 a2 a3)
      clear a0 a1 a2 a3 a4 a5
      go_wp2
      exact bodyPost_ret (v := .agg #[.int .i64 q, .string n, .int .i64 (lineAt s p1), .int .i64 (colAt s p1)]) (by simp [results, Tryz.results76, go_sem, j0, j1, j2, j3]) rfl
        ⟨by rw [HT.out, itemFlt_cells, hq.out], H, by rw [HT.out]; exact (HA'.out _ _ _ _).1, (HA'.out _ _ _ _).2, by
          rw [HT.out]; intro hh
          exfalso
          simp only [itemFlt] at hh
          cases f1
          · simp at hw1 hh; exact hw1 hh
          · simp at hh⟩
    · have hu1 : u1 = 0 := by simp at hw1; exact hw1.1
      have hf1 : f1 = false := by simp at hw1; exact hw1.2
      subst hu1 hf1
      cases hd1 : dollarF t1
      · have b0 : w4.cell? ⟨b, 0, none⟩ = some (.pointer (some ⟨v, 0, none⟩)) := S4.D.preCell 0 (by simp [preOf])
        rcases hfl with hneg | ⟨j, hj, hjf⟩
        · have HT : Hid (incR (fileR fs f) fs x z ⟨n, l, c⟩ bg d = (((6, plAt n s p1), bg, d), z)) := by
            show _ = _; rw [HI.out, HJ.out]; simp [isWordF, hd1, hneg]
          clear HI HJ
          go_upto_region 8 with (go_at_call 96; refine (dollar_any t1 _ (by omega)).mono ?_; rintro e w5 ⟨rfl, rfl⟩)
          go_quiet ((go_at_call 34; exact Calls.quiet_of_same (find_any v tt fs more t1 _ (S4.still ((Kept.refl [] _).drewN _)).TB)))
          have S5 := S4.still ((Kept.refl [] _).drewN nq)
          rw [hneg]
          obtain ⟨j0, j1, j2, j3⟩ := zero_cells S4.F
          have y := free_of S4.F
          have HA' := (show Hid _ from fun a0 a1 a2 a3 => flt_moved S5.D S5.M (F := w.heap.size + 1) (by omega) (by omega) (HNI.out _ (by omega)) a0 a1 a2 a3)
          go_wp2
          exact bodyPost_ret (v := .agg #[.int .i64 6, .string n, .int .i64 (lineAt s p1), .int .i64 (colAt s p1)]) (by simp [results, Tryz.results76, go_sem, j0, j1, j2, j3]) rfl
            ⟨by rw [HT.out]; rfl, H, by rw [HT.out]; exact (HA'.out _ _ _ _).1, (HA'.out _ _ _ _).2, by rw [HT.out]; intro hh; cases hh⟩
        · go_upto_region 8 with (go_at_call 96; refine (dollar_any t1 _ (by omega)).mono ?_; rintro e w5 ⟨rfl, rfl⟩)
          go_quiet ((go_at_call 34; exact Calls.quiet_of_same (find_any v tt fs more t1 _ (S4.still ((Kept.refl [] _).drewN _)).TB)))
          rw [hjf]
          have S5 := S4.still ((Kept.refl [] _).drewN nq)
          go_wp2_with fail
          refine (next_any sp z1 n s _ hs nl1.2.1 S5.SC).mono ?_
          rintro e w6 ⟨rfl, SC6, hk6⟩
          rw [hr2] at SC6 ⊢
          simp only [itemV] at SC6 ⊢
          have S6 := S5.next hk6 SC6 hspb hvs hsi hspw
          obtain ⟨W7, hW7⟩ : ∃ W7, W7 = w6.alloc (.cells #[.string t2, .int .i64 u2, .bool f2, .string n, .int .i64 (lineAt s p2), .int .i64 (colAt s p2)] 133) := ⟨_, rfl⟩
          have HW7 := (show Hid _ from hW7.symm)
          have S7 : IncSt w W7 b v tt sp z2 fs more bg d H n s := by rw [hW7]; exact S6.still ((Kept.refl [] _).alloc _)
          have I7 : ItemAt W7 w6.heap.size n s ⟨t2, u2, f2, p2⟩ := by rw [hW7]; exact heap_alloc_new _ _
          clear hW7 S4 S5 S6 SC6 hk6 I4 a0 a1 a2 a3 a4 a5 b0
          go_upto_region 12 with fail
          rw [HW7.out]
          clear HW7
          obtain ⟨a0, a1, a2, a3, a4, a5⟩ := I7.cells
          go_wp2_with fail
          refine (isWord_any t2 n u2 (lineAt s p2) (colAt s p2) f2 _).mono ?_
          rintro e w8 ⟨rfl, hk8⟩
          have S8 := S7.still hk8
          have I8 := I7.kept hk8 (by simp)
          clear a0 a1 a2 a3 a4 a5 S7 I7 hk8
          obtain ⟨a0, a1, a2, a3, a4, a5⟩ := I8.cells
          have hb8 := lt_of_get I8
          have hF8w := lt_of_get S8.F
          have hjn : ¬ ((j : Int) < 0) := by omega
          cases hw2 : (u2 == 0 && !f2)
          · have HT : Hid (incR (fileR fs f) fs x z ⟨n, l, c⟩ bg d = ((itemFlt n s ⟨t2, u2, f2, p2⟩, bg, d), z)) := by
              show _ = _; rw [HI.out, HJ.out, hjf]; simp [isWordF, hd1, hw2, hjn]
            clear HI HJ
            go_wp2_with fail
            refine (faultOf_any t2 n u2 (lineAt s p2) (colAt s p2) f2 _).mono ?_
            rintro e w9 ⟨rfl, hk9⟩
            obtain ⟨q, hq⟩ : ∃ q : Int, Hid ((if f2 = true then (7 : Int) else u2) = q) := ⟨_, rfl⟩
            rw [hq.out]
            have S9 := S8.still hk9
            obtain ⟨j0, j1, j2, j3⟩ := zero_cells S9.F
            have y := free_of S9.F
            have HA' := (show Hid _ from fun a0 a1 a2 a3 => flt_moved S9.D S9.M (F := w.heap.size + 1) (by omega) (by omega) (HNI.out _ (by omega)) a0 a1 a2 a3)
            clear a0 a1 a2 a3 a4 a5
            go_wp2
            exact bodyPost_ret (v := .agg #[.int .i64 q, .string n, .int .i64 (lineAt s p2), .int .i64 (colAt s p2)]) (by simp [results, Tryz.results76, go_sem, j0, j1, j2, j3]) rfl
              ⟨by rw [HT.out, itemFlt_cells, hq.out], H, by rw [HT.out]; exact (HA'.out _ _ _ _).1, (HA'.out _ _ _ _).2, by
                rw [HT.out]; intro hh
                exfalso
                simp only [itemFlt] at hh
                cases f2
                · simp at hw2 hh; exact hw2 hh
                · simp at hh⟩
          · have hu2 : u2 = 0 := by simp at hw2; exact hw2.1
            have hf2 : f2 = false := by simp at hw2; exact hw2.2
            subst hu2 hf2
            cases he2 : (t2.toList == [36, 93])
            · have HT : Hid (incR (fileR fs f) fs x z ⟨n, l, c⟩ bg d = (((5, plAt n s p2), bg, d), z)) := by
                show _ = _; rw [HI.out, HJ.out, hjf]; simp [isWordF, hd1, he2, hjn]
              clear HI HJ
              obtain ⟨j0, j1, j2, j3⟩ := zero_cells S8.F
              have y := free_of S8.F
              have HA' := (show Hid _ from fun a0 a1 a2 a3 => flt_moved S8.D S8.M (F := w.heap.size + 1) (by omega) (by omega) (HNI.out _ (by omega)) a0 a1 a2 a3)
              go_wp2
              exact bodyPost_ret (v := .agg #[.int .i64 5, .string n, .int .i64 (lineAt s p2), .int .i64 (colAt s p2)]) (by simp [results, Tryz.results76, go_sem, j0, j1, j2, j3]) rfl
                ⟨by rw [HT.out]; rfl, H, by rw [HT.out]; exact (HA'.out _ _ _ _).1, (HA'.out _ _ _ _).2, by rw [HT.out]; intro hh; cases hh⟩
            · have HT : Hid (incR (fileR fs f) fs x z ⟨n, l, c⟩ bg d = (fileR fs f j bg d, z2)) := by
                show _ = _; rw [HI.out, HJ.out, hjf]; simp [isWordF, hd1, he2, hjn]
              clear HI HJ
              have RJ := RF.out j w8 hj S8.D S8.TB
              unfold FileSays at RJ
              have HRJ := (show Hid _ from RJ)
              clear RJ RF
              generalize fileR fs f j bg d = R at *
              obtain ⟨⟨r, pf, pl, pc⟩, bg', d'⟩ := R
              simp only [fltV] at HRJ
              go_wp2_with fail
              refine Calls.mono HRJ.out ?_
              rintro e w9 ⟨rfl, H9, D9, T9⟩
              have F9 := T9.1.get S8.F (by rintro (e | e); omega; exact HNI.out _ (by omega) e)
              have SC9 : ScanAt w9 sp n s z2 := T9.1.get S8.SC (by rintro (e | e); exact hspb e; exact hsi e)
              obtain ⟨j0, j1, j2, j3⟩ := zero_cells F9
              have y := free_of F9
              have HA' := (show Hid _ from fun a0 a1 a2 a3 => flt_moved D9 (S8.M.trans (T9.moved sp)) (F := w.heap.size + 1) (by omega) (by omega) (T9.fresh _ hF8w (HNI.out _ (by omega))) a0 a1 a2 a3)
              have HSC := (show Hid _ from fun a0 a1 a2 a3 => SC9.kept (four_in (r := w.heap.size + 1) a0 a1 a2 a3) (by simp; omega))
              clear a0 a1 a2 a3 a4 a5
              go_wp2
              exact bodyPost_ret (v := .agg #[.int .i64 r, .string pf, .int .i64 pl, .int .i64 pc]) (by simp [results, Tryz.results76, go_sem, j0, j1, j2, j3]) rfl
                ⟨by rw [HT.out]; rfl, H9, by rw [HT.out]; exact (HA'.out _ _ _ _).1, (HA'.out _ _ _ _).2, by rw [HT.out]; exact fun _ => HSC.out _ _ _ _⟩
      · have HT : Hid (incR (fileR fs f) fs x z ⟨n, l, c⟩ bg d = (((5, plAt n s p1), bg, d), z)) := by
          show _ = _; rw [HI.out, HJ.out]; simp [isWordF, hd1]
        clear HI HJ
        obtain ⟨j0, j1, j2, j3⟩ := zero_cells S4.F
        have y := free_of S4.F
        have HA' := (show Hid _ from fun a0 a1 a2 a3 => flt_moved S4.D S4.M (F := w.heap.size + 1) (by omega) (by omega) (HNI.out _ (by omega)) a0 a1 a2 a3)
        go_wp2_with (go_at_call 96; refine (dollar_any t1 _ (by omega)).mono ?_; rintro e w5 ⟨rfl, rfl⟩)
        exact bodyPost_ret (v := .agg #[.int .i64 5, .string n, .int .i64 (lineAt s p1), .int .i64 (colAt s p1)]) (by simp [results, Tryz.results76, go_sem, j0, j1, j2, j3]) rfl
          ⟨by rw [HT.out]; rfl, H, by rw [HT.out]; exact (HA'.out _ _ _ _).1, (HA'.out _ _ _ _).2, by rw [HT.out]; intro hh; cases hh⟩
  · have HT : Hid (incR (fileR fs f) fs x z ⟨n, l, c⟩ bg d = (((4, ⟨n, l, c⟩), bg, d), z)) := by
      show _ = _; rw [HI.out, HJ.out, ho]; simp
    clear HI HJ
    have i0 : W.cell? ⟨w.heap.size, 0, none⟩ = some (.string n) := by rw [cell_of hP]; rfl
    have i1 : W.cell? ⟨w.heap.size, 1, none⟩ = some (.int .i64 l) := by rw [cell_of hP]; rfl
    have i2 : W.cell? ⟨w.heap.size, 2, none⟩ = some (.int .i64 c) := by rw [cell_of hP]; rfl
    obtain ⟨j0, j1, j2, j3⟩ := zero_cells hF
    have y := free_of hF
    have HA' := (show Hid _ from fun a0 a1 a2 a3 => flt_moved D MK.out (F := w.heap.size + 1) (by omega) (by omega) (HNI.out _ (by omega)) a0 a1 a2 a3)
    go_enter Tryz.func76, Tryz.ntmps76
    go_upto_region 1 with fail
    rw [HW.out]
    go_wp2_with fail
    refine (open_any b 113 5 (preOf v bg) [] d H _ D (preOf_len v bg hbg)).mono ?_
    rintro e w1 ⟨rfl, hw1⟩
    subst hw1
    rw [ho]
    go_wp2
    exact bodyPost_ret (v := .agg #[.int .i64 4, .string n, .int .i64 l, .int .i64 c]) (by simp [results, Tryz.results76, go_sem, j0, j1, j2, j3]) rfl
      ⟨by rw [HT.out]; rfl, H, by rw [HT.out]; exact (HA'.out _ _ _ _).1, (HA'.out _ _ _ _).2, by rw [HT.out]; intro hh; cases hh⟩

end Go.Proofs.YtcipkfhpcbddiaaGreat

/- Package reader: readWord, readFile. -/
namespace Go.Proofs.YtcipkfhpcbddiaaGreat
open Go.RowKit
attribute [local go_sem] build_fault build_nofault

set_option maxHeartbeats 1600000 in
set_option maxRecDepth 100000 in
theorem readWord_any (b v tt sp f x z : Nat) (fs : List (ByteArray × ByteArray)) (more : List Value) (bg : List Bool) (hbg : bg.length = 4) (d : Db) (H : Nat → Hd) (n s t : ByteArray) (l c : Int) (w : World)
    (h : DbIs w b 113 (preOf v bg) [] d H) (hn : fileNm fs x = n) (hsd : fileDt fs x = s) (hs : s.size ≤ 1024) (hz : z ≤ s.size) (hsc : ScanAt w sp n s z) (ht : TabAt w v tt fs more)
    (hspb : sp ≠ b) (hvs : v ≠ sp) (hsi : ¬ InH H sp) (hsm : Small d 10000000) (htx : t.size ≤ 1073741824) (hin : Inner d 100000000)
    (RF : Hid (∀ (j : Nat) (w' : World), j < fs.length → DbIs w' b 113 (preOf v bg) [] d H → TabAt w' v tt fs more → FileSays b v fs f j bg d H w')) :
    Calls Tryz.prog 62 #[.pointer (some ⟨b, 0, none⟩), .pointer (some ⟨sp, 0, none⟩), .agg #[.string t, .int .i64 0, .bool false, .string n, .int .i64 l, .int .i64 c]] w fun e w' =>
      e = .returned (fltV (wordR (fileR fs f) fs x z t ⟨n, l, c⟩ bg d).1.1) ∧ ∃ H', DbIs w' b 113 (preOf v (wordR (fileR fs f) fs x z t ⟨n, l, c⟩ bg d).1.2.1) [] (wordR (fileR fs f) fs x z t ⟨n, l, c⟩ bg d).1.2.2 H' ∧ Moved b sp w H w' H' ∧
        (((wordR (fileR fs f) fs x z t ⟨n, l, c⟩ bg d).1.1.1 == 0) = true → ScanAt w' sp n s (wordR (fileR fs f) fs x z t ⟨n, l, c⟩ bg d).2) := by
  cases hi : (t.toList == [36, 91])
  · have HT : wordR (fileR fs f) fs x z t ⟨n, l, c⟩ bg d = ((if ((takeF d t ⟨n, l, c⟩).1 == 0) = true then noFlt else ((takeF d t ⟨n, l, c⟩).1, ⟨n, l, c⟩), bg, (takeF d t ⟨n, l, c⟩).2), z) := by
      unfold wordR; rw [hi]; simp
    rw [HT]
    refine (readWordTake_any b 113 v bg hbg d H _ t n l c w h hsm htx hin hi).mono ?_
    rintro e w' ⟨rfl, H', D', T'⟩
    exact ⟨rfl, H', D', T'.moved sp, fun _ => T'.1.get hsc (by rintro (e | e); exact hspb e; exact hsi e)⟩
  · have HT : wordR (fileR fs f) fs x z t ⟨n, l, c⟩ bg d = incR (fileR fs f) fs x z ⟨n, l, c⟩ bg d := by
      unfold wordR; rw [hi]; simp
    rw [HT]
    obtain ⟨W, hW⟩ : ∃ W, W = ((w.alloc (.cells #[.string t, .int .i64 0, .bool false, .string n, .int .i64 l, .int .i64 c] 133)).alloc (.cells #[.int .i64 0, .string ⟨#[]⟩, .int .i64 0, .int .i64 0] 41)) := ⟨_, rfl⟩
    have hK : Kept [] w W := by rw [hW]; exact ((Kept.refl [] w).alloc _).alloc _
    have hbw := h.lt
    have hspw := lt_of_get hsc
    have hI : W.heap[w.heap.size]? = some (.cells #[.string t, .int .i64 0, .bool false, .string n, .int .i64 l, .int .i64 c] 133 (0, 0)) := by
      rw [hW]; exact ((Kept.refl [] _).alloc _).get (heap_alloc_new _ _) (by simp)
    have hF : W.heap[w.heap.size + 1]? = some (.cells zeroFault 41 (0, 0)) := by
      rw [hW]
      have := heap_alloc_new (w.alloc (.cells #[.string t, .int .i64 0, .bool false, .string n, .int .i64 l, .int .i64 c] 133)) (.cells #[.int .i64 0, .string ⟨#[]⟩, .int .i64 0, .int .i64 0] 41)
      simpa [zeroFault] using this
    have i0 : W.cell? ⟨w.heap.size, 0, none⟩ = some (.string t) := by rw [cell_of hI]; rfl
    have i3 : W.cell? ⟨w.heap.size, 3, none⟩ = some (.string n) := by rw [cell_of hI]; rfl
    have i4 : W.cell? ⟨w.heap.size, 4, none⟩ = some (.int .i64 l) := by rw [cell_of hI]; rfl
    have i5 : W.cell? ⟨w.heap.size, 5, none⟩ = some (.int .i64 c) := by rw [cell_of hI]; rfl
    have IC := include_any b v tt sp f x z fs more bg hbg d H n s l c W (h.still hK) hn hsd hs hz (hsc.kept hK (by simp)) (ht.kept hK (by simp)) hspb hvs hsi RF
    have HIC := (show Hid _ from IC)
    have HNI : Hid (∀ k, w.heap.size ≤ k → ¬ InH H k) := fun k hk hm => by have := h.inlt hm; omega
    have HW := (show Hid _ from hW.symm)
    have hFw := lt_of_get hF
    clear hW IC RF HT h
    generalize incR (fileR fs f) fs x z ⟨n, l, c⟩ bg d = R at *
    obtain ⟨⟨⟨r, pf, pl, pc⟩, bg', d'⟩, z'⟩ := R
    simp only [fltV] at HIC ⊢
    go_enter Tryz.func62, Tryz.ntmps62
    go_upto_region 1 with fail
    rw [HW.out]
    go_wp2_with fail
    refine Calls.mono HIC.out ?_
    rintro e w2 ⟨rfl, H2, D2, M2, hs2⟩
    have hF2 := M2.1.get hF (by rintro (e | e | e); omega; omega; exact HNI.out _ (by omega) e)
    obtain ⟨j0, j1, j2, j3⟩ := zero_cells hF2
    have y := free_of hF2
    have HA' := (show Hid _ from fun a0 a1 a2 a3 => flt_moved D2 (M2.first hK) (F := w.heap.size + 1) (by omega) (by omega) (M2.fresh _ hFw (HNI.out _ (by omega))) a0 a1 a2 a3)
    have HSC := (show Hid _ from fun a0 a1 a2 a3 hh => (hs2 hh).kept (four_in (r := w.heap.size + 1) a0 a1 a2 a3) (by simp; omega))
    clear hs2 i0 i3 i4 i5
    go_wp2
    exact bodyPost_ret (v := .agg #[.int .i64 r, .string pf, .int .i64 pl, .int .i64 pc]) (by simp [results, Tryz.results62, go_sem, j0, j1, j2, j3]) rfl
      ⟨rfl, H2, (HA'.out _ _ _ _).1, (HA'.out _ _ _ _).2, fun hh => HSC.out _ _ _ _ hh⟩

end Go.Proofs.YtcipkfhpcbddiaaGreat

/- Package reader: readFile. -/
namespace Go.Proofs.YtcipkfhpcbddiaaGreat
open Go.RowKit
attribute [local go_sem] build_fault build_nofault

theorem build_scan (w : World) (n d : ByteArray) (l c : Int) : (Instr.build 152 #[(0, .agg #[.string n, .string d]), (2, .int .i64 l), (3, .int .i64 c)]).run Tryz.prog w = .ok (.agg #[.string n, .string d, .int .i64 0, .int .i64 l, .int .i64 c]) w :=
  run_build w 152 _ _ (by kernel_rfl)
attribute [local go_sem] build_scan

set_option maxHeartbeats 400000 in
theorem newScan_any (n d : ByteArray) (w : World) :
    Calls Tryz.prog 58 #[.agg #[.string n, .string d]] w fun e w' => ∃ s, e = .returned (.pointer (some ⟨s, 0, none⟩)) ∧ w.heap.size ≤ s ∧ ScanAt w' s n d 0 ∧ Kept [] w w' := by
  go_enter Tryz.func58, Tryz.ntmps58
  go_wp2
  go_ret
  refine ⟨w.heap.size + 1, rfl, by omega, ?_, ((Kept.refl _ _).alloc _).alloc _⟩
  have := heap_alloc_new (w.alloc (.cells #[.string n, .string d] 76)) (.cells #[.string n, .string d, .int .i64 0, .int .i64 1, .int .i64 1] 152)
  simpa [ScanAt, scanCells, lineAt, colAt] using this

theorem Turned.beyond {b : Nat} {w wr w' : World} {H H1 : Nat → Hd} {S : List Nat} (T : Turned b w H wr H1) (k : Kept S wr w') (hS : ∀ x, x ∈ S → w.heap.size ≤ x) : Turned b w H w' H1 :=
  ⟨⟨k.os.trans T.1.os, k.tape.trans T.1.tape, k.output.trans T.1.output, Nat.le_trans T.1.size k.size, fun i hi hn => by
    rw [← T.1.block i hi hn]
    exact k.block i (Nat.lt_of_lt_of_le hi T.1.size) (fun hm => by have := hS i hm; omega)⟩, T.2⟩
/-- Behind a word: the scanner is new, so its moves do not count. -/
theorem Turned.word {b sp : Nat} {w wr w' : World} {H H1 H2 : Nat → Hd} (T : Turned b w H wr H1) (M : Moved b sp wr H1 w' H2) (hsp : w.heap.size ≤ sp) : Turned b w H w' H2 := by
  refine ⟨⟨M.1.os.trans T.1.os, M.1.tape.trans T.1.tape, M.1.output.trans T.1.output, Nat.le_trans T.1.size M.1.size, ?_⟩, ?_⟩
  · intro k hk hn
    rw [← T.1.block k hk hn]
    refine M.1.block k (Nat.lt_of_lt_of_le hk T.1.size) ?_
    rintro (e | e | hm)
    · exact hn (Or.inl e)
    · omega
    · rcases T.2 k hm with h | h
      · exact hn (Or.inr h)
      · omega
  · intro k hk
    rcases M.2 k hk with h | h
    · exact T.2 k h
    · exact Or.inr (Nat.le_trans T.1.size h)

theorem preOf_set (v : Nat) (bg : List Bool) (j : Nat) : (preOf v bg).set (1 + j) (.bool true) = preOf v (bg.set j true) := by
  unfold preOf
  rw [Nat.add_comm 1 j, List.set_cons_succ, List.map_set]
theorem preOf_at (v : Nat) (bg : List Bool) (j : Nat) (h : bg.length = 4) (hj : j < 4) : (preOf v bg)[1 + j]? = some (.bool (bg.getD j true)) := by
  unfold preOf
  rw [Nat.add_comm 1 j, List.getElem?_cons_succ, List.getElem?_map, List.getD_eq_getElem?_getD]
  rw [List.getElem?_eq_getElem (by omega)]; rfl

set_option maxHeartbeats 1000000 in
set_option maxRecDepth 100000 in
theorem readFile_begun (b v f j : Nat) (fs : List (ByteArray × ByteArray)) (bg : List Bool) (hbg : bg.length = 4) (d : Db) (H : Nat → Hd) (w : World) (hj : j < 4)
    (h : DbIs w b 113 (preOf v bg) [] d H) (hb : bg.getD j true = true) : FileSays b v fs f j bg d H w := by
  unfold FileSays fileR
  rw [if_pos hb]
  have hbw := h.lt
  have c1 := h.preCell (1 + j) (by rw [preOf_len v bg hbg]; omega)
  rw [preOf_at v bg j hbg hj, hb] at c1
  have HN : Hid (¬ InH H w.heap.size) := fun hm => by have := h.inlt hm; omega
  go_enter Tryz.func50, Tryz.ntmps50
  go_wp2
  exact bodyPost_ret (v := .agg #[.int .i64 0, .string ⟨#[]⟩, .int .i64 0, .int .i64 0]) (by simp [results, Tryz.results50, go_sem]) rfl
    ⟨rfl, H, h.still ((Kept.refl [] _).alloc _), (Turned.refl _ _ _).still ((Kept.refl [] _).alloc _)⟩

end Go.Proofs.YtcipkfhpcbddiaaGreat

/- Package reader: readFile, with all that it includes. -/
namespace Go.Proofs.YtcipkfhpcbddiaaGreat
open Go.RowKit
attribute [local go_sem] build_fault build_nofault

set_option maxHeartbeats 4000000 in
set_option maxRecDepth 100000 in
theorem readFile_step (b v tt f : Nat) (fs : List (ByteArray × ByteArray)) (more : List Value) (hsz : ∀ j, j < fs.length → (fileDt fs j).size ≤ 1024) (hvb : v ≠ b)
    (IH : ∀ g, g < f → ∀ (j : Nat) (bg : List Bool) (d : Db) (H : Nat → Hd) (w : World) (m : Nat), j < fs.length → bg.length = 4 → Bnd d m → m + meas fs bg ≤ 9000000 → meas fs bg ≤ g → DbIs w b 113 (preOf v bg) [] d H → TabAt w v tt fs more → ¬ InH H v → FileSays b v fs g j bg d H w)
    (j : Nat) (bg : List Bool) (d : Db) (H : Nat → Hd) (w : World) (m : Nat) (hj : j < fs.length) (hbg : bg.length = 4) (hB : Bnd d m) (hm : m + meas fs bg ≤ 9000000) (hf : meas fs bg ≤ f)
    (h : DbIs w b 113 (preOf v bg) [] d H) (ht : TabAt w v tt fs more) (hvi : ¬ InH H v) (hb : bg.getD j true = false) : FileSays b v fs f j bg d H w := by
  unfold FileSays fileR
  rw [if_neg (by rw [hb]; simp)]
  have hlen := ht.2
  have hs := hsz j hj
  have hms := meas_set fs bg j hbg hb
  obtain ⟨n, hn⟩ : ∃ n, fileNm fs j = n := ⟨_, rfl⟩
  obtain ⟨s, hsd⟩ : ∃ s, fileDt fs j = s := ⟨_, rfl⟩
  rw [hsd] at hs hms
  have hbw := h.lt
  have hfr := h.free
  have hvw := ht.lt
  have c1 := h.preCell (1 + j) (by rw [preOf_len v bg hbg]; omega)
  rw [preOf_at v bg j hbg (by omega), hb] at c1
  have c0 := h.preCell 0 (by simp [preOf])
  have c0' : w.cell? ⟨b, 0, none⟩ = some (.pointer (some ⟨v, 0, none⟩)) := c0
  clear c0
  have P1 := h.pre (1 + j) (by rw [preOf_len v bg hbg]; omega) (.bool true)
  rw [preOf_set] at P1
  obtain ⟨bg1, hbg1⟩ : ∃ bg1, bg.set j true = bg1 := ⟨_, rfl⟩
  have hl1 : bg1.length = 4 := by rw [← hbg1]; simpa using hbg
  rw [hbg1] at P1 hms ⊢
  clear hbg1
  obtain ⟨W, hW⟩ : ∃ W, W = (w.setCell ⟨b, 1 + j, none⟩ (.bool true)).alloc (.cells #[.int .i64 0, .string ⟨#[]⟩, .int .i64 0, .int .i64 0] 41) := ⟨_, rfl⟩
  have D1 : DbIs W b 113 (preOf v bg1) [] d H := by rw [hW]; exact P1.1.still ((Kept.refl [] _).alloc _)
  have T1 : Turned b w H W H := by rw [hW]; exact P1.2.still ((Kept.refl [] _).alloc _)
  have F1 : W.heap[w.heap.size]? = some (.cells zeroFault 41 (0, 0)) := by
    rw [hW]
    have := heap_alloc_new (w.setCell ⟨b, 1 + j, none⟩ (.bool true)) (.cells zeroFault 41)
    simpa [World.setCell, zeroFault] using this
  have ht1 : TabAt W v tt fs more := ⟨T1.1.get ht.1 (by rintro (e | e); exact hvb e; exact hvi e), ht.2⟩
  have HNI : Hid (∀ k, w.heap.size ≤ k → ¬ InH H k) := fun k hk hm => by have := h.inlt hm; omega
  have HW := (show Hid _ from hW.symm)
  have HIH := (show Hid _ from IH)
  clear P1 hW IH
  go_enter Tryz.func50, Tryz.ntmps50
  go_wp2_with fail
  rw [HW.out]
  clear HW c1 c0' hfr ht h
  refine (file_any v tt j fs more _ ht1 hj).mono ?_
  rintro e w2 ⟨rfl, hk2⟩
  rw [hn, hsd]
  go_wp2_with fail
  refine (newScan_any n s _).mono ?_
  rintro e w3 ⟨sp, rfl, hsp, h3, hk3⟩
  go_wp2_with fail
  refine (next_any sp 0 n s _ hs (by omega) h3).mono ?_
  rintro e w4 ⟨rfl, h4, hk4⟩
  have hWl := lt_of_get F1
  have hz2 := hk2.size
  have hz3 := hk3.size
  have hz4 := hk4.size
  have hspw : w.heap.size < sp := by omega
  have hspb : sp ≠ b := by omega
  have hvs : v ≠ sp := by omega
  have T4 : Turned b w H w4 H := (((T1.still hk2).still hk3).beyond hk4 (by simp; omega))
  have F4 : w4.heap[w.heap.size]? = some (.cells zeroFault 41 (0, 0)) := hk4.get (hk3.get (hk2.get F1 (by simp)) (by simp)) (by simp; omega)
  have D4 : DbIs w4 b 113 (preOf v bg1) [] d H := ((D1.still hk2).still hk3).kept hk4 (by simp; omega) (by intro k hk; simp; rintro rfl; exact HNI.out _ (by omega) hk)
  have TB4 : TabAt w4 v tt fs more := ((ht1.kept hk2 (by simp)).kept hk3 (by simp)).kept hk4 (by simp; omega)
  have hsp4 := lt_of_get h4
  clear D1 T1 F1 ht1 hk2 hk3 hk4 h3
  simp only [itemV]
  go_wp2
  go_loopg [7] s.size (fun gk _ wr => ∃ (k g m1 : Nat) (bg' : List Bool) (d' : Db) (H1 : Nat → Hd), k ≤ s.size ∧ gk = s.size - k ∧ bg'.length = 4 ∧ Bnd d' m1 ∧ m1 + (s.size - k) + meas fs bg' ≤ 9000000 ∧ (s.size - k) + meas fs bg' + 1 ≤ g ∧ g ≤ f ∧
    Hid (readGo fs f j 0 bg1 d = readGo fs g j k bg' d') ∧ ScanAt wr sp n s (nextF s k).2 ∧ ItemAt wr w4.heap.size n s (nextF s k).1 ∧
    wr.heap[w.heap.size]? = some (.cells zeroFault 41 (0, 0)) ∧ DbIs wr b 113 (preOf v bg') [] d' H1 ∧ TabAt wr v tt fs more ∧ Turned b w H wr H1 ∧ (¬ InH H1 sp ∧ ¬ InH H1 w4.heap.size ∧ ¬ InH H1 w.heap.size ∧ ¬ InH H1 v))
  case atStart => exact ⟨0, f, m, bg1, d, H, by omega, by omega, hl1, hB, by omega, by omega, Nat.le_refl _, rfl, h4.kept ((Kept.refl [] _).alloc _) (by simp), heap_alloc_new _ _, ((Kept.refl [] _).alloc _).get F4 (by simp), D4.still ((Kept.refl [] _).alloc _), TB4.kept ((Kept.refl [] _).alloc _) (by simp), T4.still ((Kept.refl [] _).alloc _), HNI.out _ (by omega), HNI.out _ (by omega), HNI.out _ (by omega), hvi⟩
  case round =>
    obtain ⟨k, g, m1, bg', d', H1, hk, hg, hl', hB1, hm1, hfg, hgf, hR, h5, hI, hF, D, TB, T, hn1, hn2, hn3, hn4⟩ := hrel
    obtain ⟨g', rfl⟩ : ∃ g', g = g' + 1 := ⟨g - 1, by omega⟩
    clear D4 T4 F4 TB4 h4
    have hnl := nextF_le s k hk
    have htx := nextF_text s k hs
    have SK := step_kin fs g' (go_kin fs g').2 j k bg' d' m1 (by rw [hsd]; exact hk) hl' hB1
    have L1 := go_on fs g' j k bg' d'
    have L2 := go_stop fs g' j k bg' d'
    have L3 := go_end fs g' j k bg' d'
    have L4 := go_bad fs g' j k bg' d'
    have ST : stepR fs g' j k bg' d' = wordR (fileR fs g') fs j (nextF s k).2 (nextF s k).1.text (plAt n s (nextF s k).1.pos) bg' d' := by unfold stepR; rw [hn, hsd]
    rw [hsd] at SK L1 L2 L3 L4
    rw [hn] at L4
    rw [ST] at SK L1 L2
    have L6 : isWordF (nextF s k).1 = false → (nextF s k).1.fin = false → ((nextF s k).1.rule == 0) = false := isWordF_not
    have HSK := (show Hid _ from SK)
    have HL1 := (show Hid _ from L1)
    have HL2 := (show Hid _ from L2)
    have HL3 := (show Hid _ from L3)
    have HL4 := (show Hid _ from L4)
    have HL6 := (show Hid _ from L6)
    clear SK L1 L2 L3 L4 L6 ST
    generalize hrr : nextF s k = r at *
    obtain ⟨⟨t, u, fi, p⟩, z⟩ := r
    clear hrr
    simp only at h5 hI hnl htx HSK HL1 HL2 HL3 HL4 HL6
    obtain ⟨q0, q1, q2, q3, q4, q5⟩ := hI.cells
    have hFw := lt_of_get hF
    have hsw := lt_of_get h5
    have hIw := lt_of_get hI
    have hDw := D.lt
    cases hw : (u == 0 && !fi)
    · cases fi
      · have HF : Hid (readGo fs f j 0 bg1 d = (itemFlt n s ⟨t, u, false, p⟩, bg', d')) := hR.out.trans (HL4.out hw (by simp))
        have hu : (u == 0) = false := by simpa using hw
        clear HL1 HL2 HL3 HL4 HL6 HSK
        go_wp2_with fail
        refine (isWord_any t n _ (lineAt s p) (colAt s p) _ _).mono ?_
        rintro e w5 ⟨rfl, hk5⟩
        have hI5 := hI.kept hk5 (by simp)
        have hF5 := hk5.get hF (by simp)
        have D5 := D.still hk5
        have T5 := T.still hk5
        clear q0 q1 q2 q3 q4 q5 hI h5 hF D T hk5 TB
        obtain ⟨q0, q1, q2, q3, q4, q5⟩ := hI5.cells
        go_wp2_with fail
        refine (faultOf_any t n u (lineAt s p) (colAt s p) _ _).mono ?_
        rintro e w6 ⟨rfl, hk6⟩
        simp only [Bool.false_eq_true, if_false]
        have hF6 := hk6.get hF5 (by simp)
        have D6 := D5.still hk6
        have T6 := T5.still hk6
        have HA' := (show Hid _ from fun a0 a1 a2 a3 => flt_after D6 T6 (F := w.heap.size) (Nat.le_refl _) (by omega) hn3 a0 a1 a2 a3)
        obtain ⟨z0, z1, z2, z3⟩ := zero_cells hF6
        have y := free_of hF6
        go_wp2
        exact bodyPost_ret (v := .agg #[.int .i64 u, .string n, .int .i64 (lineAt s p), .int .i64 (colAt s p)]) (by simp [results, Tryz.results50, go_sem, z0, z1, z2, z3]) rfl
          ⟨by rw [HF.out]; rfl, H1, by rw [HF.out]; exact (HA'.out _ _ _ _).1, (HA'.out _ _ _ _).2⟩
      · cases ho : openF d'
        · have HF : Hid (readGo fs f j 0 bg1 d = (noFlt, bg', d')) := hR.out.trans (HL3.out hw rfl ho)
          clear HL1 HL2 HL3 HL4 HL6 HSK
          go_wp2_with fail
          refine (isWord_any t n _ (lineAt s p) (colAt s p) _ _).mono ?_
          rintro e w5 ⟨rfl, hk5⟩
          have hI5 := hI.kept hk5 (by simp)
          have hF5 := hk5.get hF (by simp)
          have D5 := D.still hk5
          have T5 := T.still hk5
          clear q0 q1 q2 q3 q4 q5 hI h5 hF D T hk5 TB
          obtain ⟨q0, q1, q2, q3, q4, q5⟩ := hI5.cells
          go_wp2_with fail
          refine (open_any b 113 5 (preOf v bg') [] d' H1 _ D5 (preOf_len v bg' hl')).mono ?_
          rintro e w6 ⟨rfl, hw6⟩
          subst hw6
          rw [ho]
          have HA' := (show Hid _ from fun a0 a1 a2 a3 => flt_after D5 T5 (F := w.heap.size) (Nat.le_refl _) (by omega) hn3 a0 a1 a2 a3)
          obtain ⟨z0, z1, z2, z3⟩ := zero_cells hF5
          have y := free_of hF5
          go_wp2
          exact bodyPost_ret (v := .agg #[.int .i64 0, .string ⟨#[]⟩, .int .i64 0, .int .i64 0]) (by simp [results, Tryz.results50, go_sem, z0, z1, z2, z3]) rfl
            ⟨by rw [HF.out]; rfl, H1, by rw [HF.out]; exact (HA'.out _ _ _ _).1, (HA'.out _ _ _ _).2⟩
        · have HF : Hid (readGo fs f j 0 bg1 d = (itemFlt n s ⟨t, u, true, p⟩, bg', d')) := hR.out.trans (HL4.out hw (by simp [ho]))
          clear HL1 HL2 HL3 HL4 HL6 HSK
          go_wp2_with fail
          refine (isWord_any t n _ (lineAt s p) (colAt s p) _ _).mono ?_
          rintro e w5 ⟨rfl, hk5⟩
          have hI5 := hI.kept hk5 (by simp)
          have hF5 := hk5.get hF (by simp)
          have D5 := D.still hk5
          have T5 := T.still hk5
          clear q0 q1 q2 q3 q4 q5 hI h5 hF D T hk5 TB
          obtain ⟨q0, q1, q2, q3, q4, q5⟩ := hI5.cells
          go_wp2_with fail
          refine (open_any b 113 5 (preOf v bg') [] d' H1 _ D5 (preOf_len v bg' hl')).mono ?_
          rintro e w6 ⟨rfl, hw6⟩
          subst hw6
          rw [ho]
          go_wp2_with fail
          refine (faultOf_any t n u (lineAt s p) (colAt s p) _ _).mono ?_
          rintro e w7 ⟨rfl, hk7⟩
          simp only [if_true]
          have hF7 := hk7.get hF5 (by simp)
          have D7 := D5.still hk7
          have T7 := T5.still hk7
          have HA' := (show Hid _ from fun a0 a1 a2 a3 => flt_after D7 T7 (F := w.heap.size) (Nat.le_refl _) (by omega) hn3 a0 a1 a2 a3)
          obtain ⟨z0, z1, z2, z3⟩ := zero_cells hF7
          have y := free_of hF7
          go_wp2
          exact bodyPost_ret (v := .agg #[.int .i64 7, .string n, .int .i64 (lineAt s p), .int .i64 (colAt s p)]) (by simp [results, Tryz.results50, go_sem, z0, z1, z2, z3]) rfl
            ⟨by rw [HF.out]; rfl, H1, by rw [HF.out]; exact (HA'.out _ _ _ _).1, (HA'.out _ _ _ _).2⟩
    · have hu : u = 0 := by simp at hw; exact hw.1
      have hfi : fi = false := by simp at hw; exact hw.2
      subst hu hfi
      have hsm := hB1.small (N := 10000000) (by omega)
      have hsm2 := (hB1.small (N := 100000000) (by omega)).2
      have RW := fun (w' : World) (h' : DbIs w' b 113 (preOf v bg') [] d' H1) (hsc : ScanAt w' sp n s z) (htb : TabAt w' v tt fs more) => readWord_any b v tt sp g' j z fs more bg' hl' d' H1 n s t (lineAt s p) (colAt s p) w' h' hn hsd hs hnl.2.1 hsc htb hspb hvs hn1 hsm.1 (by omega) hsm2
        (fun jj ww hjj hdd htt => HIH.out g' (by omega) jj bg' d' H1 ww m1 hjj hl' hB1 (by omega) (by omega) hdd htt hn4)
      have HRW := (show Hid _ from RW)
      have HSK' := (show Hid _ from HSK.out hw)
      have HL1' := (show Hid _ from HL1.out hw)
      have HL2' := (show Hid _ from HL2.out hw)
      clear RW HL1 HL2 HL3 HL4 HL6 HSK
      simp only [plAt] at HSK' HL1' HL2'
      generalize wordR (fileR fs g') fs j z t ⟨n, lineAt s p, colAt s p⟩ bg' d' = Q at *
      obtain ⟨⟨⟨r, pf, pl, pc⟩, bg2, d2⟩, z2⟩ := Q
      simp only [fltV] at HSK' HL1' HL2' HRW
      have hz2' := HSK'.out.2
      obtain ⟨hl2, hme, m2, hB2, hm2⟩ := HSK'.out.1
      simp only at hl2 hme hB2 hm2 hz2'
      clear HSK'
      cases hr : (r == 0)
      · have hr' : (r != 0) = true := by simp [bne, hr]
        have HF : Hid (readGo fs f j 0 bg1 d = ((r, ⟨pf, pl, pc⟩), bg2, d2)) := hR.out.trans (HL2'.out hr)
        clear HL1' HL2'
        go_wp2_with fail
        refine (isWord_any t n _ (lineAt s p) (colAt s p) _ _).mono ?_
        rintro e w5 ⟨rfl, hk5⟩
        have hI5 := hI.kept hk5 (by simp)
        have h55 := h5.kept hk5 (by simp)
        have hF5 := hk5.get hF (by simp)
        have D5 := D.still hk5
        have T5 := T.still hk5
        have TB5 := TB.kept hk5 (by simp)
        clear q0 q1 q2 q3 q4 q5 hI h5 hF D T TB hk5
        obtain ⟨q0, q1, q2, q3, q4, q5⟩ := hI5.cells
        go_wp2_with fail
        refine (HRW.out _ D5 h55 TB5).mono ?_
        rintro e w6 ⟨rfl, H2, D6, M6, -⟩
        have hF6 := M6.1.get hF5 (by rintro (e | e | e); omega; omega; exact hn3 e)
        have m3 := M6.fresh w.heap.size (lt_of_get hF5) hn3
        have T7 := T5.word M6 (by omega)
        have hF6w := lt_of_get hF6
        have y6 := free_of hF6
        obtain ⟨z0, z1, z2, z3⟩ := zero_cells hF6
        have HA' := (show Hid _ from fun a0 a1 a2 a3 => flt_after D6 T7 (F := w.heap.size) (Nat.le_refl _) (by omega) m3 a0 a1 a2 a3)
        clear q0 q1 q2 q3 q4 q5
        go_wp2
        exact bodyPost_ret (v := .agg #[.int .i64 r, .string pf, .int .i64 pl, .int .i64 pc]) (by simp [results, Tryz.results50, go_sem, hF6w, z0, z1, z2, z3]) rfl
          ⟨by rw [HF.out]; rfl, H2, by rw [HF.out]; exact (HA'.out _ _ _ _).1.still ((Kept.refl [] _).alloc _), ((HA'.out _ _ _ _).2.still ((Kept.refl [] _).alloc _))⟩
      · have hr' : (r != 0) = false := by simp [bne, hr]
        have HF : Hid (readGo fs f j 0 bg1 d = readGo fs g' j z2 bg2 d2) := hR.out.trans (HL1'.out hr)
        clear HL1' HL2'
        go_wp2_with fail
        refine (isWord_any t n _ (lineAt s p) (colAt s p) _ _).mono ?_
        rintro e w5 ⟨rfl, hk5⟩
        have hI5 := hI.kept hk5 (by simp)
        have h55 := h5.kept hk5 (by simp)
        have hF5 := hk5.get hF (by simp)
        have D5 := D.still hk5
        have T5 := T.still hk5
        have TB5 := TB.kept hk5 (by simp)
        clear q0 q1 q2 q3 q4 q5 hI h5 hF D T TB hk5
        obtain ⟨q0, q1, q2, q3, q4, q5⟩ := hI5.cells
        go_wp2_with fail
        refine (HRW.out _ D5 h55 TB5).mono ?_
        rintro e w6 ⟨rfl, H2, D6, M6, hs6⟩
        have h6 := hs6 hr
        have hF6 := M6.1.get hF5 (by rintro (e | e | e); omega; omega; exact hn3 e)
        have hI6 : ItemAt w6 w4.heap.size n s ⟨t, 0, false, p⟩ := M6.1.get hI5 (by rintro (e | e | e); omega; omega; exact hn2 e)
        have TB6 : TabAt w6 v tt fs more := ⟨M6.1.get TB5.1 (by rintro (e | e | e); exact hvb e; exact hvs e; exact hn4 e), TB5.2⟩
        have e1 := M6.fresh sp (lt_of_get h55) hn1
        have e2 := M6.fresh w4.heap.size (lt_of_get hI5) hn2
        have e3 := M6.fresh w.heap.size (lt_of_get hF5) hn3
        have e4 := M6.fresh v TB5.lt hn4
        have T7 := T5.word M6 (by omega)
        have hF6w := lt_of_get hF6
        have hI6w := lt_of_get hI6
        have h6w := lt_of_get h6
        go_wp2_with fail
        refine (next_any sp z2 n s _ hs hz2'.2 (by exact h6.kept ((Kept.refl [] _).alloc _) (by simp))).mono ?_
        rintro e w8 ⟨rfl, h8, hk8⟩
        have hI8 := (hI6.kept ((Kept.refl [] _).alloc _) (by simp)).kept hk8 (by simp; omega)
        have hF8 := hk8.get (((Kept.refl [] _).alloc _).get hF6 (by simp)) (by simp; omega)
        have D8 := (D6.still ((Kept.refl [] _).alloc _)).kept hk8 (by simp; omega) (by intro k hk; simp; rintro rfl; exact e1 hk)
        have TB8 := (TB6.kept ((Kept.refl [] _).alloc _) (by simp)).kept hk8 (by simp; omega)
        have T8 := (T7.still ((Kept.refl [] _).alloc _)).beyond hk8 (by simp; omega)
        have yy := free_of hI8
        have hI8w := lt_of_get hI8
        clear q0 q1 q2 q3 q4 q5
        obtain ⟨q0, q1, q2, q3, q4, q5⟩ := hI8.cells
        simp only [itemV]
        go_wp2
        go_roundg (s.size - z2)
        case measure => omega
        case rel =>
          exact ⟨z2, g', m2, bg2, d2, H2, hz2'.2, rfl, hl2, hB2, by omega, by omega, by omega, HF.out, six_scan h8 (by omega) _ _ _ _ _ _, item_stored hI8 _, six_other hF8 (by omega) _ _ _ _ _ _,
            D8.kept (six_in _ _ _ _ _ _) (by simp; omega) (by intro k hk; simp; rintro rfl; exact e2 hk), TB8.kept (six_in _ _ _ _ _ _) (by simp; omega), T8.beyond (six_in _ _ _ _ _ _) (by simp; omega), e1, e2, e3, e4⟩

theorem readFile_any (b v tt : Nat) (fs : List (ByteArray × ByteArray)) (more : List Value) (hsz : ∀ j, j < fs.length → (fileDt fs j).size ≤ 1024) (hvb : v ≠ b) (f : Nat) : ∀ (j : Nat) (bg : List Bool) (d : Db) (H : Nat → Hd) (w : World) (m : Nat), j < fs.length → bg.length = 4 → Bnd d m → m + meas fs bg ≤ 9000000 → meas fs bg ≤ f → DbIs w b 113 (preOf v bg) [] d H → TabAt w v tt fs more → ¬ InH H v → FileSays b v fs f j bg d H w := by
  induction f using Nat.strongRecOn with
  | _ f IH =>
    intro j bg d H w m hj hbg hB hm hf h ht hvi
    cases hb : bg.getD j true with
    | true => exact readFile_begun b v f j fs bg hbg d H w (by have := ht.2; omega) h hb
    | false => exact readFile_step b v tt f fs more hsz hvb IH j bg d H w m hj hbg hB hm hf h ht hvi hb

end Go.Proofs.YtcipkfhpcbddiaaGreat

/- Package reader: Read. The record, as others find it. -/
namespace Go.Proofs.YtcipkfhpcbddiaaGreat
open Go.RowKit
attribute [local go_sem] build_fault build_nofault

/-- Statements in memory: the array, and each one's own two. -/
structure StsIs (w : World) (l : List St) (H : Nat → Hd) : Prop where
  own : Owns w (H 6) (rowT l H)
  syms : ∀ i s, l[i]? = some s → Owns w (H (10 + 2 * i)) (rowS s.symbols)
  prfs : ∀ i s, l[i]? = some s → Owns w (H (11 + 2 * i)) (rowW s.proof)
theorem DbIs.record {w : World} {b t : Nat} {pre post : List Value} {d : Db} {H : Nat → Hd} (h : DbIs w b t pre post d H) : StsIs w d.sts H := by
  refine ⟨h.own 6, fun i s hs => ?_, fun i s hs => ?_⟩
  · have := h.own (10 + 2 * i)
    rw [show 10 + 2 * i = 2 * i + 10 by omega] at this ⊢
    have e : rowsOf d H (2 * i + 10) = rowS s.symbols := by simp [rowsOf, inner, symsAt, hs]
    rw [e] at this; exact this
  · have := h.own (11 + 2 * i)
    rw [show 11 + 2 * i = (2 * i + 1) + 10 by omega] at this ⊢
    have q : (2 * i + 1) % 2 = 1 := by omega
    have q2 : (2 * i + 1) / 2 = i := by omega
    have e : rowsOf d H ((2 * i + 1) + 10) = rowW s.proof := by simp [rowsOf, inner, prfAt, q, q2, hs]
    rw [e] at this; exact this
theorem StsIs.keptP {w w' : World} {l : List St} {H : Nat → Hd} {P : Nat → Prop} (h : StsIs w l H) (k : KeptP P w w') (hP : ∀ x, InH H x → ¬ P x) : StsIs w' l H :=
  ⟨h.own.moved (fun x hx => k.block x (h.own.lt hx) (hP x ⟨6, hx⟩)), fun i s hs => (h.syms i s hs).moved (fun x hx => k.block x ((h.syms i s hs).lt hx) (hP x ⟨_, hx⟩)), fun i s hs => (h.prfs i s hs).moved (fun x hx => k.block x ((h.prfs i s hs).lt hx) (hP x ⟨_, hx⟩))⟩
theorem StsIs.kept {w w' : World} {l : List St} {H : Nat → Hd} {S : List Nat} (h : StsIs w l H) (k : Kept S w w') (hP : ∀ x, InH H x → x ∉ S) : StsIs w' l H :=
  h.keptP (k.toP (P := (· ∈ S)) (fun _ hm _ => hm)) hP
theorem StsIs.still {w w' : World} {l : List St} {H : Nat → Hd} (h : StsIs w l H) (k : Kept [] w w') : StsIs w' l H := h.kept k (by simp)

theorem build_reader (w : World) (a : Option Addr) : (Instr.build 113 #[(0, .pointer a)]).run Tryz.prog w = .ok (.agg #[.pointer a, .bool false, .bool false, .bool false, .bool false,
    .slice none 0 0, .slice none 0 0, .slice none 0 0, .slice none 0 0, .slice none 0 0, .slice none 0 0, .slice none 0 0, .slice none 0 0, .int .i64 0, .string ⟨#[]⟩, .slice none 0 0, .bool false, .slice none 0 0]) w :=
  run_build w 113 _ _ (by kernel_rfl)
theorem build_norec (w : World) : (Instr.build 82 #[]).run Tryz.prog w = .ok (.agg #[.slice none 0 0, .slice none 0 0]) w :=
  run_build w 82 _ _ (by kernel_rfl)
attribute [local go_sem] build_reader build_norec

def noHd : Nat → Hd := fun _ => ⟨none, 0⟩
theorem not_no (k : Nat) : ¬ InH noHd k := by rintro ⟨i, h⟩; simp [noHd, Hd.blk] at h
def bg0 : List Bool := [false, false, false, false]

theorem DbIs.begin {w : World} {b t : Nat} {pre : List Value} (h : w.heap[b]? = some (.cells (pre ++ (dbList emptyDb noHd ++ [])).toArray t (0, 0))) : DbIs w b t pre [] emptyDb noHd := by
  refine ⟨h, ?_, fun i j _ => Or.inl rfl, fun i e => by simp [noHd, Hd.blk] at e⟩
  intro i
  match i with
  | 0 => exact World.ownsRow_nil _ _ _ _
  | 1 => exact World.ownsRow_nil _ _ _ _
  | 2 => exact World.ownsRow_nil _ _ _ _
  | 3 => exact World.ownsRow_nil _ _ _ _
  | 4 => exact World.ownsRow_nil _ _ _ _
  | 5 => exact World.ownsRow_nil _ _ _ _
  | 6 => exact World.ownsRow_nil _ _ _ _
  | 7 => exact World.ownsRow_nil _ _ _ _
  | 8 => exact World.ownsRow_nil _ _ _ _
  | 9 => exact World.ownsRow_nil _ _ _ _
  | n + 10 =>
    have e : rowsOf emptyDb noHd (n + 10) = if n % 2 = 0 then rowS [] else rowW [] := by simp [rowsOf, inner, emptyDb, symsAt, prfAt]
    rw [e]
    split
    · exact World.ownsRow_nil _ _ _ _
    · exact World.ownsRow_nil _ _ _ _

theorem record_any (b t o : Nat) (pre post : List Value) (d : Db) (H : Nat → Hd) (w : World) (h : DbIs w b t pre post d H) (ho : pre.length = o) :
    Calls Tryz.prog 51 #[.pointer (some ⟨b, o, none⟩)] w fun e w' => e = .returned (.agg #[.slice (H 6).ao d.sts.length (H 6).cap, .slice (H 7).ao d.rbl.length (H 7).cap]) ∧ Kept [] w w' := by
  obtain ⟨q0, q1, q2, q3, q4, q5, q6, q7, q8, q9, q10, q11, q12⟩ := h.cells o ho
  clear q0 q1 q2 q3 q4 q5 q8 q9 q10 q11 q12
  have hbw := h.lt
  go_enter Tryz.func51, Tryz.ntmps51
  go_wp2
  exact bodyPost_ret (v := .agg #[.slice (H 6).ao d.sts.length (H 6).cap, .slice (H 7).ao d.rbl.length (H 7).cap]) (by simp [results, Tryz.results51, go_sem]) rfl ⟨rfl, (Kept.refl _ _).alloc _⟩

theorem meas_le (fs : List (ByteArray × ByteArray)) (hsz : ∀ j, j < fs.length → (fileDt fs j).size ≤ 1024) (bg : List Bool) : meas fs bg ≤ 4104 := by
  have h : ∀ j, unb fs bg j ≤ 1026 := by
    intro j
    unfold unb
    split
    · omega
    · rcases Nat.lt_or_ge j fs.length with h | h
      · have := hsz j h; omega
      · have : (fileDt fs j).size = 0 := by unfold fileDt; rw [List.getD_eq_getElem?_getD, List.getElem?_eq_none h]; rfl
        omega
  have h0 := h 0
  have h1 := h 1
  have h2 := h 2
  have h3 := h 3
  unfold meas
  omega

theorem kept_24 {S : List Nat} {a w : World} {A B : Nat} (h : Kept S a w) (hA : A ∈ S ∨ a.heap.size ≤ A) (hB : B ∈ S ∨ a.heap.size ≤ B) (u0 u1 v0 v1 v2 v3 : Value) :
    Kept S a ((((((w.setCell ⟨A, 0, none⟩ u0).setCell ⟨A, 1, none⟩ u1).setCell ⟨B, 0, none⟩ v0).setCell ⟨B, 1, none⟩ v1).setCell ⟨B, 2, none⟩ v2).setCell ⟨B, 3, none⟩ v3) :=
  (((((h.setCell hA _).setCell hA _).setCell hB _).setCell hB _).setCell hB _).setCell hB _

/-- The whole database from a file on. -/
def readAll (fs : List (ByteArray × ByteArray)) (root : Nat) : Red := fileR fs 5000 root bg0 emptyDb

set_option maxHeartbeats 1600000 in
set_option maxRecDepth 100000 in
theorem read_any (v tt k0 : Nat) (fs : List (ByteArray × ByteArray)) (more : List Value) (w : World)
    (ht : TabAt w v tt fs more) (hk0 : k0 < fs.length) (hsz : ∀ j, j < fs.length → (fileDt fs j).size ≤ 1024) :
    Calls Tryz.prog 44 #[.pointer (some ⟨v, 0, none⟩), .int .i64 k0] w fun e w' =>
      (if ((readAll fs k0).1.1 == 0) = true then ∃ H, e = .returned (.tuple #[.agg #[.slice (H 6).ao (readAll fs k0).2.2.sts.length (H 6).cap, .slice (H 7).ao (readAll fs k0).2.2.rbl.length (H 7).cap], fltV noFlt]) ∧ StsIs w' (readAll fs k0).2.2.sts H ∧ (∀ k, InH H k → w.heap.size ≤ k)
       else e = .returned (.tuple #[.agg #[.slice none 0 0, .slice none 0 0], fltV (readAll fs k0).1])) ∧ Kept [] w w' := by
  have hvw := ht.lt
  obtain ⟨W, hW⟩ : ∃ W, W = ((w.alloc (.cells #[.slice none 0 0, .slice none 0 0] 82)).alloc (.cells #[.int .i64 0, .string ⟨#[]⟩, .int .i64 0, .int .i64 0] 41)).alloc (.cells #[.pointer (some ⟨v, 0, none⟩), .bool false, .bool false, .bool false, .bool false,
    .slice none 0 0, .slice none 0 0, .slice none 0 0, .slice none 0 0, .slice none 0 0, .slice none 0 0, .slice none 0 0, .slice none 0 0, .int .i64 0, .string ⟨#[]⟩, .slice none 0 0, .bool false, .slice none 0 0] 113) := ⟨_, rfl⟩
  have hK : Kept [] w W := by rw [hW]; exact (((Kept.refl [] _).alloc _).alloc _).alloc _
  have hA : W.heap[w.heap.size]? = some (.cells #[.slice none 0 0, .slice none 0 0] 82 (0, 0)) := by
    rw [hW]; exact (((Kept.refl [] _).alloc _).alloc _).get (heap_alloc_new _ _) (by simp)
  have hF : W.heap[w.heap.size + 1]? = some (.cells zeroFault 41 (0, 0)) := by
    rw [hW]
    have e : (w.alloc (.cells #[.slice none 0 0, .slice none 0 0] 82)).heap.size = w.heap.size + 1 := by simp
    rw [← e]
    exact ((Kept.refl [] _).alloc _).get (heap_alloc_new _ _) (by simp)
  have hD : DbIs W (w.heap.size + 2) 113 (preOf v bg0) [] emptyDb noHd := by
    refine DbIs.begin ?_
    rw [hW]
    have e : ((w.alloc (.cells #[.slice none 0 0, .slice none 0 0] 82)).alloc (.cells #[.int .i64 0, .string ⟨#[]⟩, .int .i64 0, .int .i64 0] 41)).heap.size = w.heap.size + 2 := by simp
    rw [← e]
    exact heap_alloc_new _ _
  have hT : TabAt W v tt fs more := ht.kept hK (by simp)
  have HW := (show Hid _ from hW.symm)
  have RF := readFile_any (w.heap.size + 2) v tt fs more hsz (by omega) 5000 k0 bg0 emptyDb noHd W 0 hk0 rfl Bnd.empty (by have := meas_le fs hsz bg0; omega) (by have := meas_le fs hsz bg0; omega) hD hT (not_no _)
  unfold FileSays at RF
  have HRF := (show Hid _ from RF)
  clear hW RF
  have HKN : Hid ((fileR fs 5000 k0 bg0 emptyDb).2.1.length = 4) := ((go_kin fs 5000).2 k0 bg0 emptyDb 0 rfl Bnd.empty).1
  have ER : Hid (readAll fs k0 = fileR fs 5000 k0 bg0 emptyDb) := rfl
  rw [ER.out]
  clear ER
  generalize fileR fs 5000 k0 bg0 emptyDb = R at *
  obtain ⟨⟨r, pf, pl, pc⟩, bg', d'⟩ := R
  simp only [fltV] at HRF HKN ⊢
  go_enter Tryz.func44, Tryz.ntmps44
  go_upto_region 2 with fail
  rw [HW.out]
  go_wp2_with fail
  refine Calls.mono HRF.out ?_
  rintro e w2 ⟨rfl, H2, D2, T2⟩
  have hA2 := T2.1.get hA (by rintro (e | e); omega; exact not_no _ e)
  have hF2 := T2.1.get hF (by rintro (e | e); omega; exact not_no _ e)
  have hz2 := T2.1.size
  have hWs := D2.lt
  have HNI : Hid (∀ k, InH H2 k → w.heap.size ≤ k) := fun k hk => by
    rcases T2.2 k hk with h | h
    · exact absurd h (not_no _)
    · have := hK.size; omega
  have HN2 : Hid (∀ k, InH H2 k → k ≠ w.heap.size ∧ k ≠ w.heap.size + 1 ∧ k ≠ w.heap.size + 2) := fun k hk => by
    have hz := lt_of_get hF
    have hz3 := hD.lt
    rcases T2.2 k hk with h | h
    · exact absurd h (not_no _)
    · omega
  have K2 : Hid (Kept [] w w2) := ⟨T2.1.os.trans hK.os, T2.1.tape.trans hK.tape, T2.1.output.trans hK.output, Nat.le_trans hK.size T2.1.size, fun k hk _ => (T2.1.block k (Nat.lt_of_lt_of_le hk hK.size) (by rintro (e | e); omega; exact not_no _ e)).trans (hK.block k hk (by simp))⟩
  have a0 : w2.cell? ⟨w.heap.size, 0, none⟩ = some (.slice none 0 0) := by rw [cell_of hA2]; rfl
  have a1 : w2.cell? ⟨w.heap.size, 1, none⟩ = some (.slice none 0 0) := by rw [cell_of hA2]; rfl
  obtain ⟨z0, z1, z2, z3⟩ := zero_cells hF2
  have ya := free_of hA2
  have yf := free_of hF2
  have hA2w := lt_of_get hA2
  have hF2w := lt_of_get hF2
  cases hr : (r == 0)
  · have hr' : (r != 0) = true := by simp [bne, hr]
    go_wp2_with fail
    go_region
    all_goals go_wp2
    all_goals exact bodyPost_ret (v := .tuple #[.agg #[.slice none 0 0, .slice none 0 0], .agg #[.int .i64 r, .string pf, .int .i64 pl, .int .i64 pc]]) (by simp [results, Tryz.results44, go_sem, a0, a1, z0, z1, z2, z3, hA2w, hF2w]) rfl ⟨rfl, ((kept_24 K2.out (Or.inr (Nat.le_refl _)) (Or.inr (Nat.le_succ _)) _ _ _ _ _ _).alloc _).drew⟩
  · have hr' : (r != 0) = false := by simp [bne, hr]
    go_wp2_with fail
    refine (record_any (w.heap.size + 2) 113 5 (preOf v bg') [] d' H2 _ (by exact D2.still ((Kept.refl [] _).alloc _)) (preOf_len v bg' HKN.out)).mono ?_
    rintro e w4 ⟨rfl, hk4⟩
    have k24 : Kept [] w2 w4 := ((Kept.refl [] _).alloc _).trans hk4
    have hA4 := k24.get hA2 (by simp)
    have hF4 := k24.get hF2 (by simp)
    have K4 : Hid (Kept [] w w4) := K2.out.trans k24
    have S4 : Hid (StsIs w4 d'.sts H2) := D2.record.still k24
    clear a0 a1 z0 z1 z2 z3 ya yf hk4
    have a0 : w4.cell? ⟨w.heap.size, 0, none⟩ = some (.slice none 0 0) := by rw [cell_of hA4]; rfl
    have a1 : w4.cell? ⟨w.heap.size, 1, none⟩ = some (.slice none 0 0) := by rw [cell_of hA4]; rfl
    obtain ⟨z0, z1, z2, z3⟩ := zero_cells hF4
    have ya := free_of hA4
    have yf := free_of hF4
    go_wp2
    exact bodyPost_ret (v := .tuple #[.agg #[.slice (H2 6).ao d'.sts.length (H2 6).cap, .slice (H2 7).ao d'.rbl.length (H2 7).cap], .agg #[.int .i64 0, .string ⟨#[]⟩, .int .i64 0, .int .i64 0]]) (by simp [results, Tryz.results44, go_sem, a0, a1, z0, z1, z2, z3]) rfl
      ⟨⟨H2, rfl, S4.out.kept (kept_24 (Kept.refl [w.heap.size, w.heap.size + 1] w4) (Or.inl (by simp)) (Or.inl (by simp)) _ _ _ _ _ _) (fun k hk => by have := HN2.out k hk; simp; omega), HNI.out⟩,
        kept_24 K4.out (Or.inr (Nat.le_refl _)) (Or.inr (Nat.le_succ _)) _ _ _ _ _ _⟩

end Go.Proofs.YtcipkfhpcbddiaaGreat

/- Package record: what it tells. -/
namespace Go.Proofs.YtcipkfhpcbddiaaGreat
open Go.RowKit

/-- A record at cell o of block b. -/
structure RecAt (w : World) (b o : Nat) (l : List St) (H : Nat → Hd) : Prop where
  cell : ∃ arr t, w.heap[b]? = some (.cells arr t (0, 0)) ∧ arr[o]? = some (.slice (H 6).ao l.length (H 6).cap)
  sts : StsIs w l H
theorem RecAt.at {w : World} {b o : Nat} {l : List St} {H : Nat → Hd} (h : RecAt w b o l H) : w.cell? ⟨b, o, none⟩ = some (.slice (H 6).ao l.length (H 6).cap) := by
  obtain ⟨arr, t, h1, h2⟩ := h.cell
  rw [cell_of h1]; exact h2
theorem RecAt.lt {w : World} {b o : Nat} {l : List St} {H : Nat → Hd} (h : RecAt w b o l H) : b < w.heap.size := by
  obtain ⟨arr, t, h1, h2⟩ := h.cell
  exact lt_of_get h1
theorem RecAt.kept {w w' : World} {b o : Nat} {l : List St} {H : Nat → Hd} {S : List Nat} (h : RecAt w b o l H) (k : Kept S w w') (hb : b ∉ S) (hP : ∀ x, InH H x → x ∉ S) : RecAt w' b o l H := by
  obtain ⟨arr, t, h1, h2⟩ := h.cell
  exact ⟨⟨arr, t, k.get h1 hb, h2⟩, h.sts.kept k hP⟩
theorem RecAt.still {w w' : World} {b o : Nat} {l : List St} {H : Nat → Hd} (h : RecAt w b o l H) (k : Kept [] w w') : RecAt w' b o l H := h.kept k (by simp) (by simp)

/-- The array of the statements, and the cells of one. -/
theorem StsIs.stmt {w : World} {l : List St} {H : Nat → Hd} (h : StsIs w l H) (n : Nat) (hn : n < l.length) :
    ∃ g, (H 6).ao = some ⟨g, 0, none⟩ ∧ l.length ≤ (H 6).cap ∧ (H 6).cap ≤ 9223372036854775807 ∧ w.cell? ⟨g, n * 8, none⟩ = some (.int .i64 l[n].kind) ∧ w.cell? ⟨g, n * 8 + 1, none⟩ = some (.string l[n].label) ∧ w.cell? ⟨g, n * 8 + 2, none⟩ = some (.slice (H (10 + 2 * n)).ao l[n].symbols.length (H (10 + 2 * n)).cap) ∧
    w.cell? ⟨g, n * 8 + 3, none⟩ = some (.slice (H (11 + 2 * n)).ao l[n].proof.length (H (11 + 2 * n)).cap) ∧ w.cell? ⟨g, n * 8 + 4, none⟩ = some (.string l[n].fin.file) ∧ w.cell? ⟨g, n * 8 + 5, none⟩ = some (.int .i64 l[n].fin.line) ∧
    w.cell? ⟨g, n * 8 + 6, none⟩ = some (.int .i64 l[n].fin.col) ∧ w.cell? ⟨g, n * 8 + 7, none⟩ = some (.int .i64 l[n].til) := by
  rcases h.own.ways with ⟨_, h0, _⟩ | ⟨g, cur, e1, e2, e3, e4, -⟩
  · have : l.length = 0 := h0
    omega
  · have c := fun j (hj : j < 8) v (hv : (stV l[n] (H (10 + 2 * n)) (H (11 + 2 * n)))[j]? = some v) => h.own.cell e1 (n * 8 + j) v ((stsV_at l H n hn j hj).trans hv)
    exact ⟨g, e1, e3, by unfold maxLen at e4; exact e4, c 0 (by omega) _ rfl, c 1 (by omega) _ rfl, c 2 (by omega) _ rfl, c 3 (by omega) _ rfl, c 4 (by omega) _ rfl, c 5 (by omega) _ rfl, c 6 (by omega) _ rfl, c 7 (by omega) _ rfl⟩

theorem count_any (b o : Nat) (l : List St) (H : Nat → Hd) (w : World) (h : RecAt w b o l H) :
    Calls Tryz.prog 45 #[.pointer (some ⟨b, o, none⟩)] w fun e w' => e = .returned (.int .i64 l.length) ∧ w' = w := by
  have c := h.at
  go_enter Tryz.func45, Tryz.ntmps45
  go_wp2
  go_ret
  exact ⟨rfl, rfl⟩

/-- A statement as a value. -/
def stVal (s : St) (a b : Hd) : Value :=
  .agg #[.int .i64 s.kind, .string s.label, .slice a.ao s.symbols.length a.cap, .slice b.ao s.proof.length b.cap, .string s.fin.file, .int .i64 s.fin.line, .int .i64 s.fin.col, .int .i64 s.til]

set_option maxHeartbeats 800000 in
theorem statement_any (b o k : Nat) (l : List St) (H : Nat → Hd) (w : World) (h : RecAt w b o l H) (hk : k < l.length) :
    Calls Tryz.prog 53 #[.pointer (some ⟨b, o, none⟩), .int .i64 k] w fun e w' => e = .returned (stVal l[k] (H (10 + 2 * k)) (H (11 + 2 * k))) ∧ Kept [] w w' := by
  have c := h.at
  have hbw := h.lt
  obtain ⟨g, e1, e2, e3, c0, c1, c2, c3, c4, c5, c6, c7⟩ := h.sts.stmt k hk
  have hgw := h.sts.own.lt (k := g) (by unfold Hd.blk; rw [e1]; rfl)
  rw [e1] at c
  unfold stVal
  clear h
  go_enter Tryz.func53, Tryz.ntmps53
  go_wp2
  exact bodyPost_ret (v := .agg #[.int .i64 l[k].kind, .string l[k].label, .slice (H (10 + 2 * k)).ao l[k].symbols.length (H (10 + 2 * k)).cap, .slice (H (11 + 2 * k)).ao l[k].proof.length (H (11 + 2 * k)).cap, .string l[k].fin.file, .int .i64 l[k].fin.line, .int .i64 l[k].fin.col, .int .i64 l[k].til])
    (by simp [results, Tryz.results53, go_sem]) rfl ⟨rfl, (Kept.refl _ _).alloc _⟩

/-- Is a statement active (of an assertion: there) at another? -/
def heldF (l : List St) (n a : Nat) : Bool := match l[n]? with | some s => decide (n < a) && (s.til == 0 || decide (a < s.til)) | none => false
theorem held_eq (l : List St) (n a : Nat) (h : n < l.length) : heldF l n a = (decide (n < a) && (l[n].til == 0 || decide (a < l[n].til))) := by
  unfold heldF; rw [List.getElem?_eq_getElem h]

set_option maxHeartbeats 800000 in
theorem holds_any (b o k a : Nat) (l : List St) (H : Nat → Hd) (w : World) (h : RecAt w b o l H) (hk : k < l.length) :
    Calls Tryz.prog 80 #[.pointer (some ⟨b, o, none⟩), .int .i64 k, .int .i64 a] w fun e w' => e = .returned (.bool (heldF l k a)) ∧ w' = w := by
  have c := h.at
  obtain ⟨g, e1, e2, e3, c0, c1, c2, c3, c4, c5, c6, c7⟩ := h.sts.stmt k hk
  clear c0 c1 c2 c3 c4 c5 c6
  rw [e1] at c
  have HE := (show Hid _ from held_eq l k a hk)
  generalize l[k].til = t at *
  clear h
  by_cases h1 : k < a
  · cases h2 : ((t : Int) == 0)
    · have h2' : (t == 0) = false := by cases t <;> simp at h2 ⊢
      have HT : Hid (heldF l k a = decide (a < t)) := by show _ = _; rw [HE.out, h2']; simp [h1]
      clear HE
      go_enter Tryz.func80, Tryz.ntmps80
      go_wp2
      go_ret
      exact ⟨ret_bool (by rw [HT.out]), rfl⟩
    · have h2' : (t == 0) = true := by cases t <;> simp at h2 ⊢ <;> omega
      have HT : Hid (heldF l k a = true) := by show _ = _; rw [HE.out, h2']; simp [h1]
      clear HE
      go_enter Tryz.func80, Tryz.ntmps80
      go_wp2
      go_ret
      exact ⟨ret_bool (by rw [HT.out]), rfl⟩
  · have HT : Hid (heldF l k a = false) := by show _ = _; rw [HE.out]; simp [h1]
    clear HE
    go_enter Tryz.func80, Tryz.ntmps80
    go_wp2
    go_ret
    exact ⟨ret_bool (by rw [HT.out]), rfl⟩

/-- Which statement a proof at a may name by this label. -/
def namesF (l : List St) (lab : ByteArray) (a n : Nat) : Bool := match l[n]? with | some s => (s.label.toList == lab.toList) && !(s.kind == 1) && heldF l n a | none => false
def findHF (l : List St) (lab : ByteArray) (a : Nat) : Option Nat := (List.range l.length).find? (namesF l lab a)
def optV : Option Nat → Int
  | some n => n
  | none => -1
theorem names_eq (l : List St) (lab : ByteArray) (a n : Nat) (h : n < l.length) : namesF l lab a n = ((l[n].label.toList == lab.toList) && !(l[n].kind == 1) && heldF l n a) := by
  unfold namesF; rw [List.getElem?_eq_getElem h]
theorem range_hit {p : Nat → Bool} {n k : Nat} (hk : k < n) (hp : p k = true) (hall : ∀ i, i < k → p i = false) : (List.range n).find? p = some k :=
  List.find?_range_eq_some.2 ⟨hp, by simpa using hk, fun j hj => by simp [hall j hj]⟩
theorem range_none {p : Nat → Bool} {n : Nat} (hall : ∀ i, i < n → p i = false) : (List.range n).find? p = none :=
  List.find?_eq_none.2 (fun i hi => by simp [hall i (by simpa using hi)])

set_option maxHeartbeats 1600000 in
theorem findHolding_any (b o a : Nat) (lab : ByteArray) (l : List St) (H : Nat → Hd) (w : World) (h : RecAt w b o l H) (hl : l.length ≤ 1073741824) :
    Calls Tryz.prog 105 #[.pointer (some ⟨b, o, none⟩), .string lab, .int .i64 a] w fun e w' => e = .returned (.int .i64 (optV (findHF l lab a))) ∧ w' = w := by
  have c := h.at
  go_enter Tryz.func105, Tryz.ntmps105
  go_wp2
  go_loopg [7] l.length (fun g i wr => ∃ k : Nat, k ≤ l.length ∧ g = l.length - k ∧ i = .int .i64 k ∧ Hid (∀ i, i < k → namesF l lab a i = false) ∧ wr = w)
  case atStart => exact ⟨0, by omega, by omega, rfl, fun i hi => by omega, rfl⟩
  case round =>
    obtain ⟨k, hk, hg, rfl, hall, rfl⟩ := hrel
    by_cases hlt : k < l.length
    · obtain ⟨g, e1, e2, e3, c0, c1, c2, c3, c4, c5, c6, c7⟩ := h.sts.stmt k hlt
      clear c2 c3 c4 c5 c6 c7
      rw [e1] at c
      have HN := (show Hid _ from names_eq l lab a k hlt)
      have HH : Hid (RecAt wr b o l H) := h
      generalize l[k].label = lb at *
      generalize l[k].kind = kd at *
      have next : Hid (namesF l lab a k = false → ∀ i, i < k + 1 → namesF l lab a i = false) := by
        intro hf i hi
        by_cases e : i = k
        · subst e; exact hf
        · exact hall.out i (by omega)
      cases hb : (lb.toList == lab.toList)
      · have HF : Hid (namesF l lab a k = false) := by show _ = _; rw [HN.out, hb]; simp
        clear HN h
        go_wp2
        go_roundg (l.length - (k + 1))
        case measure => omega
        case rel => exact ⟨k + 1, by omega, rfl, by go_num, next.out HF.out, rfl⟩
      · cases hd : (kd == 1)
        · have hd' : (kd != 1) = true := by simp [bne, hd]
          cases hh : heldF l k a
          · have HF : Hid (namesF l lab a k = false) := by show _ = _; rw [HN.out, hh]; simp
            clear HN h
            go_wp2_with (go_at_call 80; refine (holds_any b o k a l H _ HH.out hlt).mono ?_; rintro e w1 ⟨rfl, rfl⟩)
            go_roundg (l.length - (k + 1))
            case measure => omega
            case rel => exact ⟨k + 1, by omega, rfl, by go_num, next.out HF.out, rfl⟩
          · have HF : Hid (findHF l lab a = some k) := range_hit hlt (by rw [HN.out, hb, hd, hh]; rfl) hall.out
            clear HN h
            go_wp2_with (go_at_call 80; refine (holds_any b o k a l H _ HH.out hlt).mono ?_; rintro e w1 ⟨rfl, rfl⟩)
            go_ret
            exact ⟨ret_int (by rw [HF.out]; rfl), rfl⟩
        · have hd' : (kd != 1) = false := by simp [bne, hd]
          have HF : Hid (namesF l lab a k = false) := by show _ = _; rw [HN.out, hd]; simp
          clear HN h
          go_wp2
          go_roundg (l.length - (k + 1))
          case measure => omega
          case rel => exact ⟨k + 1, by omega, rfl, by go_num, next.out HF.out, rfl⟩
    · have HF : Hid (findHF l lab a = none) := range_none (fun i hi => hall.out i (by omega))
      clear h
      go_wp2
      go_ret
      exact ⟨ret_int (by rw [HF.out]; rfl), rfl⟩

end Go.Proofs.YtcipkfhpcbddiaaGreat
