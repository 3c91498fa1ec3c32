/- Our texts: Read2, Read3, Read4. -/
import Derived.BigQuiet
import Derived.Test.YtkancbaldeeijaaGreatG12
/- Package reader: include. -/
namespace Go.Proofs.YtkancbaldeeijaaGreat
open Go.RowKit
attribute [local go_sem] build_fault build_nofault

/-- What readFile must say of every file that an inclusion may name. -/
def FileSays (b v : Nat) (fs : List (ByteArray × ByteArray)) (f j : Nat) (bg : List Bool) (d : Db) (H : Nat → Hd) (w : World) : Prop :=
  Calls Tryz.prog 40 #[.pointer (some ⟨b, 0, none⟩), .int .i64 j] w fun e w' => e = .returned (fltV (fileR fs f j bg d).1) ∧ ∃ H', DbIs w' b 93 (preOf v (fileR fs f j bg d).2.1) [] (fileR fs f j bg d).2.2 H' ∧ Turned b w H w' H'

/-- The end of a call that answers a fault, the scanner having moved. -/
theorem flt_moved {w w2 : World} {b t sp F : Nat} {pre post : List Value} {d : Db} {H H2 : Nat → Hd} (D : DbIs w2 b t pre post d H2) (T : Moved b sp w H w2 H2) (h1 : w.heap.size ≤ F) (h2 : b ≠ F) (h3 : ¬ InH H2 F) (a0 a1 a2 a3 : Value) :
    DbIs ((((w2.setCell ⟨F, 0, none⟩ a0).setCell ⟨F, 1, none⟩ a1).setCell ⟨F, 2, none⟩ a2).setCell ⟨F, 3, none⟩ a3) b t pre post d H2 ∧
    Moved b sp w H ((((w2.setCell ⟨F, 0, none⟩ a0).setCell ⟨F, 1, none⟩ a1).setCell ⟨F, 2, none⟩ a2).setCell ⟨F, 3, none⟩ a3) H2 :=
  ⟨D.kept (four_in _ _ _ _) (by simpa using h2) (fun x hx => by simp; rintro rfl; exact h3 hx), T.beyond (four_in _ _ _ _) (by simpa using h1)⟩

theorem itemFlt_cells (n s : ByteArray) (t : ByteArray) (u : Int) (f : Bool) (p : Nat) : fltV (itemFlt n s ⟨t, u, f, p⟩) = .agg #[.int .i64 (if f = true then 7 else u), .string n, .int .i64 (lineAt s p), .int .i64 (colAt s p)] := rfl

/-- What stands on the way through an inclusion. -/
structure IncSt (w w' : World) (b v tt sp z : Nat) (fs : List (ByteArray × ByteArray)) (more : List Value) (bg : List Bool) (d : Db) (H : Nat → Hd) (n s : ByteArray) : Prop where
  D : DbIs w' b 93 (preOf v bg) [] d H
  TB : TabAt w' v tt fs more
  SC : ScanAt w' sp n s z
  F : w'.heap[w.heap.size + 1]? = some (.cells zeroFault 47 (0, 0))
  M : Moved b sp w H w' H
theorem IncSt.still {w w1 w2 : World} {b v tt sp z : Nat} {fs : List (ByteArray × ByteArray)} {more : List Value} {bg : List Bool} {d : Db} {H : Nat → Hd} {n s : ByteArray} (S : IncSt w w1 b v tt sp z fs more bg d H n s) (k : Kept [] w1 w2) : IncSt w w2 b v tt sp z fs more bg d H n s :=
  ⟨S.D.still k, S.TB.kept k (by simp), S.SC.kept k (by simp), k.get S.F (by simp), S.M.still k⟩
theorem IncSt.next {w w1 w2 : World} {b v tt sp z z' : Nat} {fs : List (ByteArray × ByteArray)} {more : List Value} {bg : List Bool} {d : Db} {H : Nat → Hd} {n s : ByteArray} (S : IncSt w w1 b v tt sp z fs more bg d H n s) (k : Kept [sp] w1 w2) (SC : ScanAt w2 sp n s z')
    (h1 : sp ≠ b) (h2 : v ≠ sp) (h3 : ¬ InH H sp) (h4 : sp < w.heap.size) : IncSt w w2 b v tt sp z' fs more bg d H n s :=
  ⟨S.D.kept k (by simpa using fun e => h1 e.symm) (by intro x hx; simp; rintro rfl; exact h3 hx), S.TB.kept k (by simpa using h2), SC, k.get S.F (by simp; omega), S.M.scan k⟩

set_option maxHeartbeats 4000000 in
set_option maxRecDepth 100000 in
theorem include_any (b v tt sp f x z : Nat) (fs : List (ByteArray × ByteArray)) (more : List Value) (bg : List Bool) (hbg : bg.length = 4) (d : Db) (H : Nat → Hd) (n s : ByteArray) (l c : Int) (w : World)
    (h : DbIs w b 93 (preOf v bg) [] d H) (hn : fileNm fs x = n) (hsd : fileDt fs x = s) (hs : s.size ≤ 1024) (hz : z ≤ s.size) (hsc : ScanAt w sp n s z) (ht : TabAt w v tt fs more)
    (hspb : sp ≠ b) (hvs : v ≠ sp) (hsi : ¬ InH H sp)
    (RF : Hid (∀ (j : Nat) (w' : World), j < fs.length → DbIs w' b 93 (preOf v bg) [] d H → TabAt w' v tt fs more → FileSays b v fs f j bg d H w')) :
    Calls Tryz.prog 60 #[.pointer (some ⟨b, 0, none⟩), .pointer (some ⟨sp, 0, none⟩), .agg #[.string n, .int .i64 l, .int .i64 c]] w fun e w' =>
      e = .returned (fltV (incR (fileR fs f) fs x z ⟨n, l, c⟩ bg d).1.1) ∧ ∃ H', DbIs w' b 93 (preOf v (incR (fileR fs f) fs x z ⟨n, l, c⟩ bg d).1.2.1) [] (incR (fileR fs f) fs x z ⟨n, l, c⟩ bg d).1.2.2 H' ∧ Moved b sp w H w' H' ∧
        (((incR (fileR fs f) fs x z ⟨n, l, c⟩ bg d).1.1.1 == 0) = true → ScanAt w' sp n s (incR (fileR fs f) fs x z ⟨n, l, c⟩ bg d).2) := by
  obtain ⟨W, hW⟩ : ∃ W, W = ((w.alloc (.cells #[.string n, .int .i64 l, .int .i64 c] 45)).alloc (.cells #[.int .i64 0, .string ⟨#[]⟩, .int .i64 0, .int .i64 0] 47)) := ⟨_, rfl⟩
  have hK : Kept [] w W := by rw [hW]; exact ((Kept.refl [] w).alloc _).alloc _
  have hbw := h.lt
  have hspw := lt_of_get hsc
  have hvw := ht.lt
  have D : DbIs W b 93 (preOf v bg) [] d H := h.still hK
  have SC : ScanAt W sp n s z := hsc.kept hK (by simp)
  have TB : TabAt W v tt fs more := ht.kept hK (by simp)
  have hP : W.heap[w.heap.size]? = some (.cells #[.string n, .int .i64 l, .int .i64 c] 45 (0, 0)) := by
    rw [hW]; exact ((Kept.refl [] _).alloc _).get (heap_alloc_new _ _) (by simp)
  have hF : W.heap[w.heap.size + 1]? = some (.cells zeroFault 47 (0, 0)) := by
    rw [hW]
    have := heap_alloc_new (w.alloc (.cells #[.string n, .int .i64 l, .int .i64 c] 45)) (.cells #[.int .i64 0, .string ⟨#[]⟩, .int .i64 0, .int .i64 0] 47)
    simpa [zeroFault] using this
  have HNI : Hid (∀ k, w.heap.size ≤ k → ¬ InH H k) := fun k hk hm => by have := h.inlt hm; omega
  have HW := (show Hid _ from hW.symm)
  have hW2 := lt_of_get hF
  have MK : Hid (Moved b sp w H W H) := (Moved.refl b sp w H).still hK
  clear hW h hsc ht
  have HI : Hid (incR (fileR fs f) fs x z ⟨n, l, c⟩ bg d = match incF fs x z ⟨n, l, c⟩ d with | .inl q => ((q, bg, d), z) | .inr (j, z') => (fileR fs f j bg d, z')) := rfl
  have HJ : Hid (incF fs x z ⟨n, l, c⟩ d = _) := (show incF fs x z ⟨n, l, c⟩ d = _ from by unfold incF; rw [hn, hsd])
  cases ho : openF d
  · have nl1 := nextF_le s z hz
    have tx1 := nextF_text s z hs
    have nl2 := nextF_le s (nextF s z).2 nl1.2.1
    have hfl := findF_le (nextF s z).1.text fs
    generalize hr1 : nextF s z = r1 at *
    obtain ⟨⟨t1, u1, f1, p1⟩, z1⟩ := r1
    simp only at nl1 tx1 nl2 hfl HJ
    have tx2 := nextF_text s z1 hs
    generalize hr2 : nextF s z1 = r2 at *
    obtain ⟨⟨t2, u2, f2, p2⟩, z2⟩ := r2
    simp only at nl2 tx2 HJ
    rw [ho] at HJ
    have S0 : IncSt w W b v tt sp z fs more bg d H n s := ⟨D, TB, SC, hF, MK.out⟩
    go_enter Tryz.func60, Tryz.ntmps60
    go_upto_region 1 with fail
    rw [HW.out]
    go_wp2_with fail
    refine (open_any b 93 5 (preOf v bg) [] d H _ D (preOf_len v bg hbg)).mono ?_
    rintro e w1 ⟨rfl, hw1⟩
    subst hw1
    rw [ho]
    go_wp2_with fail
    refine (next_any sp z n s _ hs hz SC).mono ?_
    rintro e w2 ⟨rfl, SC2, hk2⟩
    rw [hr1] at SC2 ⊢
    simp only [itemV] at SC2 ⊢
    have S2 := S0.next hk2 SC2 hspb hvs hsi hspw
    obtain ⟨W3, hW3⟩ : ∃ W3, W3 = w2.alloc (.cells #[.string t1, .int .i64 u1, .bool f1, .string n, .int .i64 (lineAt s p1), .int .i64 (colAt s p1)] 107) := ⟨_, rfl⟩
    have HW3 := (show Hid _ from hW3.symm)
    have S3 : IncSt w W3 b v tt sp z1 fs more bg d H n s := by rw [hW3]; exact S2.still ((Kept.refl [] _).alloc _)
    have I3 : ItemAt W3 w2.heap.size n s ⟨t1, u1, f1, p1⟩ := by rw [hW3]; exact heap_alloc_new _ _
    clear hW3 S0 S2 SC2 hk2 D TB SC hP hF hK HW hr1
    go_upto_region 4 with fail
    rw [HW3.out]
    clear HW3
    obtain ⟨a0, a1, a2, a3, a4, a5⟩ := I3.cells
    go_wp2_with fail
    refine (isWord_any t1 n u1 (lineAt s p1) (colAt s p1) f1 _).mono ?_
    rintro e w4 ⟨rfl, hk4⟩
    have S4 := S3.still hk4
    have I4 := I3.kept hk4 (by simp)
    clear a0 a1 a2 a3 a4 a5 S3 I3 hk4
    obtain ⟨a0, a1, a2, a3, a4, a5⟩ := I4.cells
    have hb2 := lt_of_get I4
    have hF4w := lt_of_get S4.F
    cases hw1 : (u1 == 0 && !f1)
    · have HT : Hid (incR (fileR fs f) fs x z ⟨n, l, c⟩ bg d = ((itemFlt n s ⟨t1, u1, f1, p1⟩, bg, d), z)) := by
        show _ = _; rw [HI.out, HJ.out]; simp [isWordF, hw1]
      clear HI HJ
      go_wp2_with fail
      refine (faultOf_any t1 n u1 (lineAt s p1) (colAt s p1) f1 _).mono ?_
      rintro e w5 ⟨rfl, hk5⟩
      obtain ⟨q, hq⟩ : ∃ q : Int, Hid ((if f1 = true then (7 : Int) else u1) = q) := ⟨_, rfl⟩
      rw [hq.out]
      have S5 := S4.still hk5
      obtain ⟨j0, j1, j2, j3⟩ := zero_cells S5.F
      have y := free_of S5.F
      have HA' := (show Hid _ from fun a0 a1 a2 a3 => flt_moved S5.D S5.M (F := w.heap.size + 1) (by omega) (by omega) (HNI.out _ (by omega)) a0 a1 a2 a3)
      clear a0 a1 a2 a3 a4 a5
      go_wp2
      exact bodyPost_ret (v := .agg #[.int .i64 q, .string n, .int .i64 (lineAt s p1), .int .i64 (colAt s p1)]) (by simp [results, Tryz.results60, go_sem, j0, j1, j2, j3]) rfl
        ⟨by rw [HT.out, itemFlt_cells, hq.out], H, by rw [HT.out]; exact (HA'.out _ _ _ _).1, (HA'.out _ _ _ _).2, by
          rw [HT.out]; intro hh
          exfalso
          simp only [itemFlt] at hh
          cases f1
          · simp at hw1 hh; exact hw1 hh
          · simp at hh⟩
    · have hu1 : u1 = 0 := by simp at hw1; exact hw1.1
      have hf1 : f1 = false := by simp at hw1; exact hw1.2
      subst hu1 hf1
      cases hd1 : dollarF t1
      · have b0 : w4.cell? ⟨b, 0, none⟩ = some (.pointer (some ⟨v, 0, none⟩)) := S4.D.preCell 0 (by simp [preOf])
        rcases hfl with hneg | ⟨j, hj, hjf⟩
        · have HT : Hid (incR (fileR fs f) fs x z ⟨n, l, c⟩ bg d = (((6, plAt n s p1), bg, d), z)) := by
            show _ = _; rw [HI.out, HJ.out]; simp [isWordF, hd1, hneg]
          clear HI HJ
          go_upto_region 8 with (go_at_call 78; refine (dollar_any t1 _ (by omega)).mono ?_; rintro e w5 ⟨rfl, rfl⟩)
          go_quiet ((go_at_call 28; exact Calls.quiet_of_same (find_any v tt fs more t1 _ (S4.still ((Kept.refl [] _).drewN _)).TB)))
          have S5 := S4.still ((Kept.refl [] _).drewN nq)
          rw [hneg]
          obtain ⟨j0, j1, j2, j3⟩ := zero_cells S4.F
          have y := free_of S4.F
          have HA' := (show Hid _ from fun a0 a1 a2 a3 => flt_moved S5.D S5.M (F := w.heap.size + 1) (by omega) (by omega) (HNI.out _ (by omega)) a0 a1 a2 a3)
          go_wp2
          exact bodyPost_ret (v := .agg #[.int .i64 6, .string n, .int .i64 (lineAt s p1), .int .i64 (colAt s p1)]) (by simp [results, Tryz.results60, go_sem, j0, j1, j2, j3]) rfl
            ⟨by rw [HT.out]; rfl, H, by rw [HT.out]; exact (HA'.out _ _ _ _).1, (HA'.out _ _ _ _).2, by rw [HT.out]; intro hh; cases hh⟩
        · go_upto_region 8 with (go_at_call 78; refine (dollar_any t1 _ (by omega)).mono ?_; rintro e w5 ⟨rfl, rfl⟩)
          go_quiet ((go_at_call 28; exact Calls.quiet_of_same (find_any v tt fs more t1 _ (S4.still ((Kept.refl [] _).drewN _)).TB)))
          rw [hjf]
          have S5 := S4.still ((Kept.refl [] _).drewN nq)
          go_wp2_with fail
          refine (next_any sp z1 n s _ hs nl1.2.1 S5.SC).mono ?_
          rintro e w6 ⟨rfl, SC6, hk6⟩
          rw [hr2] at SC6 ⊢
          simp only [itemV] at SC6 ⊢
          have S6 := S5.next hk6 SC6 hspb hvs hsi hspw
          obtain ⟨W7, hW7⟩ : ∃ W7, W7 = w6.alloc (.cells #[.string t2, .int .i64 u2, .bool f2, .string n, .int .i64 (lineAt s p2), .int .i64 (colAt s p2)] 107) := ⟨_, rfl⟩
          have HW7 := (show Hid _ from hW7.symm)
          have S7 : IncSt w W7 b v tt sp z2 fs more bg d H n s := by rw [hW7]; exact S6.still ((Kept.refl [] _).alloc _)
          have I7 : ItemAt W7 w6.heap.size n s ⟨t2, u2, f2, p2⟩ := by rw [hW7]; exact heap_alloc_new _ _
          clear hW7 S4 S5 S6 SC6 hk6 I4 a0 a1 a2 a3 a4 a5 b0
          go_upto_region 12 with fail
          rw [HW7.out]
          clear HW7
          obtain ⟨a0, a1, a2, a3, a4, a5⟩ := I7.cells
          go_wp2_with fail
          refine (isWord_any t2 n u2 (lineAt s p2) (colAt s p2) f2 _).mono ?_
          rintro e w8 ⟨rfl, hk8⟩
          have S8 := S7.still hk8
          have I8 := I7.kept hk8 (by simp)
          clear a0 a1 a2 a3 a4 a5 S7 I7 hk8
          obtain ⟨a0, a1, a2, a3, a4, a5⟩ := I8.cells
          have hb8 := lt_of_get I8
          have hF8w := lt_of_get S8.F
          have hjn : ¬ ((j : Int) < 0) := by omega
          cases hw2 : (u2 == 0 && !f2)
          · have HT : Hid (incR (fileR fs f) fs x z ⟨n, l, c⟩ bg d = ((itemFlt n s ⟨t2, u2, f2, p2⟩, bg, d), z)) := by
              show _ = _; rw [HI.out, HJ.out, hjf]; simp [isWordF, hd1, hw2, hjn]
            clear HI HJ
            go_wp2_with fail
            refine (faultOf_any t2 n u2 (lineAt s p2) (colAt s p2) f2 _).mono ?_
            rintro e w9 ⟨rfl, hk9⟩
            obtain ⟨q, hq⟩ : ∃ q : Int, Hid ((if f2 = true then (7 : Int) else u2) = q) := ⟨_, rfl⟩
            rw [hq.out]
            have S9 := S8.still hk9
            obtain ⟨j0, j1, j2, j3⟩ := zero_cells S9.F
            have y := free_of S9.F
            have HA' := (show Hid _ from fun a0 a1 a2 a3 => flt_moved S9.D S9.M (F := w.heap.size + 1) (by omega) (by omega) (HNI.out _ (by omega)) a0 a1 a2 a3)
            clear a0 a1 a2 a3 a4 a5
            go_wp2
            exact bodyPost_ret (v := .agg #[.int .i64 q, .string n, .int .i64 (lineAt s p2), .int .i64 (colAt s p2)]) (by simp [results, Tryz.results60, go_sem, j0, j1, j2, j3]) rfl
              ⟨by rw [HT.out, itemFlt_cells, hq.out], H, by rw [HT.out]; exact (HA'.out _ _ _ _).1, (HA'.out _ _ _ _).2, by
                rw [HT.out]; intro hh
                exfalso
                simp only [itemFlt] at hh
                cases f2
                · simp at hw2 hh; exact hw2 hh
                · simp at hh⟩
          · have hu2 : u2 = 0 := by simp at hw2; exact hw2.1
            have hf2 : f2 = false := by simp at hw2; exact hw2.2
            subst hu2 hf2
            cases he2 : (t2.toList == [36, 93])
            · have HT : Hid (incR (fileR fs f) fs x z ⟨n, l, c⟩ bg d = (((5, plAt n s p2), bg, d), z)) := by
                show _ = _; rw [HI.out, HJ.out, hjf]; simp [isWordF, hd1, he2, hjn]
              clear HI HJ
              obtain ⟨j0, j1, j2, j3⟩ := zero_cells S8.F
              have y := free_of S8.F
              have HA' := (show Hid _ from fun a0 a1 a2 a3 => flt_moved S8.D S8.M (F := w.heap.size + 1) (by omega) (by omega) (HNI.out _ (by omega)) a0 a1 a2 a3)
              go_wp2
              exact bodyPost_ret (v := .agg #[.int .i64 5, .string n, .int .i64 (lineAt s p2), .int .i64 (colAt s p2)]) (by simp [results, Tryz.results60, go_sem, j0, j1, j2, j3]) rfl
                ⟨by rw [HT.out]; rfl, H, by rw [HT.out]; exact (HA'.out _ _ _ _).1, (HA'.out _ _ _ _).2, by rw [HT.out]; intro hh; cases hh⟩
            · have HT : Hid (incR (fileR fs f) fs x z ⟨n, l, c⟩ bg d = (fileR fs f j bg d, z2)) := by
                show _ = _; rw [HI.out, HJ.out, hjf]; simp [isWordF, hd1, he2, hjn]
              clear HI HJ
              have RJ := RF.out j w8 hj S8.D S8.TB
              unfold FileSays at RJ
              have HRJ := (show Hid _ from RJ)
              clear RJ RF
              generalize fileR fs f j bg d = R at *
              obtain ⟨⟨r, pf, pl, pc⟩, bg', d'⟩ := R
              simp only [fltV] at HRJ
              go_wp2_with fail
              refine Calls.mono HRJ.out ?_
              rintro e w9 ⟨rfl, H9, D9, T9⟩
              have F9 := T9.1.get S8.F (by rintro (e | e); omega; exact HNI.out _ (by omega) e)
              have SC9 : ScanAt w9 sp n s z2 := T9.1.get S8.SC (by rintro (e | e); exact hspb e; exact hsi e)
              obtain ⟨j0, j1, j2, j3⟩ := zero_cells F9
              have y := free_of F9
              have HA' := (show Hid _ from fun a0 a1 a2 a3 => flt_moved D9 (S8.M.trans (T9.moved sp)) (F := w.heap.size + 1) (by omega) (by omega) (T9.fresh _ hF8w (HNI.out _ (by omega))) a0 a1 a2 a3)
              have HSC := (show Hid _ from fun a0 a1 a2 a3 => SC9.kept (four_in (r := w.heap.size + 1) a0 a1 a2 a3) (by simp; omega))
              clear a0 a1 a2 a3 a4 a5
              go_wp2
              exact bodyPost_ret (v := .agg #[.int .i64 r, .string pf, .int .i64 pl, .int .i64 pc]) (by simp [results, Tryz.results60, go_sem, j0, j1, j2, j3]) rfl
                ⟨by rw [HT.out]; rfl, H9, by rw [HT.out]; exact (HA'.out _ _ _ _).1, (HA'.out _ _ _ _).2, by rw [HT.out]; exact fun _ => HSC.out _ _ _ _⟩
      · have HT : Hid (incR (fileR fs f) fs x z ⟨n, l, c⟩ bg d = (((5, plAt n s p1), bg, d), z)) := by
          show _ = _; rw [HI.out, HJ.out]; simp [isWordF, hd1]
        clear HI HJ
        obtain ⟨j0, j1, j2, j3⟩ := zero_cells S4.F
        have y := free_of S4.F
        have HA' := (show Hid _ from fun a0 a1 a2 a3 => flt_moved S4.D S4.M (F := w.heap.size + 1) (by omega) (by omega) (HNI.out _ (by omega)) a0 a1 a2 a3)
        go_wp2_with (go_at_call 78; refine (dollar_any t1 _ (by omega)).mono ?_; rintro e w5 ⟨rfl, rfl⟩)
        exact bodyPost_ret (v := .agg #[.int .i64 5, .string n, .int .i64 (lineAt s p1), .int .i64 (colAt s p1)]) (by simp [results, Tryz.results60, go_sem, j0, j1, j2, j3]) rfl
          ⟨by rw [HT.out]; rfl, H, by rw [HT.out]; exact (HA'.out _ _ _ _).1, (HA'.out _ _ _ _).2, by rw [HT.out]; intro hh; cases hh⟩
  · have HT : Hid (incR (fileR fs f) fs x z ⟨n, l, c⟩ bg d = (((4, ⟨n, l, c⟩), bg, d), z)) := by
      show _ = _; rw [HI.out, HJ.out, ho]; simp
    clear HI HJ
    have i0 : W.cell? ⟨w.heap.size, 0, none⟩ = some (.string n) := by rw [cell_of hP]; rfl
    have i1 : W.cell? ⟨w.heap.size, 1, none⟩ = some (.int .i64 l) := by rw [cell_of hP]; rfl
    have i2 : W.cell? ⟨w.heap.size, 2, none⟩ = some (.int .i64 c) := by rw [cell_of hP]; rfl
    obtain ⟨j0, j1, j2, j3⟩ := zero_cells hF
    have y := free_of hF
    have HA' := (show Hid _ from fun a0 a1 a2 a3 => flt_moved D MK.out (F := w.heap.size + 1) (by omega) (by omega) (HNI.out _ (by omega)) a0 a1 a2 a3)
    go_enter Tryz.func60, Tryz.ntmps60
    go_upto_region 1 with fail
    rw [HW.out]
    go_wp2_with fail
    refine (open_any b 93 5 (preOf v bg) [] d H _ D (preOf_len v bg hbg)).mono ?_
    rintro e w1 ⟨rfl, hw1⟩
    subst hw1
    rw [ho]
    go_wp2
    exact bodyPost_ret (v := .agg #[.int .i64 4, .string n, .int .i64 l, .int .i64 c]) (by simp [results, Tryz.results60, go_sem, j0, j1, j2, j3]) rfl
      ⟨by rw [HT.out]; rfl, H, by rw [HT.out]; exact (HA'.out _ _ _ _).1, (HA'.out _ _ _ _).2, by rw [HT.out]; intro hh; cases hh⟩

end Go.Proofs.YtkancbaldeeijaaGreat

/- Package reader: readWord, readFile. -/
namespace Go.Proofs.YtkancbaldeeijaaGreat
open Go.RowKit
attribute [local go_sem] build_fault build_nofault

set_option maxHeartbeats 1600000 in
set_option maxRecDepth 100000 in
theorem readWord_any (b v tt sp f x z : Nat) (fs : List (ByteArray × ByteArray)) (more : List Value) (bg : List Bool) (hbg : bg.length = 4) (d : Db) (H : Nat → Hd) (n s t : ByteArray) (l c : Int) (w : World)
    (h : DbIs w b 93 (preOf v bg) [] d H) (hn : fileNm fs x = n) (hsd : fileDt fs x = s) (hs : s.size ≤ 1024) (hz : z ≤ s.size) (hsc : ScanAt w sp n s z) (ht : TabAt w v tt fs more)
    (hspb : sp ≠ b) (hvs : v ≠ sp) (hsi : ¬ InH H sp) (hsm : Small d 10000000) (htx : t.size ≤ 1073741824) (hin : Inner d 100000000)
    (RF : Hid (∀ (j : Nat) (w' : World), j < fs.length → DbIs w' b 93 (preOf v bg) [] d H → TabAt w' v tt fs more → FileSays b v fs f j bg d H w')) :
    Calls Tryz.prog 49 #[.pointer (some ⟨b, 0, none⟩), .pointer (some ⟨sp, 0, none⟩), .agg #[.string t, .int .i64 0, .bool false, .string n, .int .i64 l, .int .i64 c]] w fun e w' =>
      e = .returned (fltV (wordR (fileR fs f) fs x z t ⟨n, l, c⟩ bg d).1.1) ∧ ∃ H', DbIs w' b 93 (preOf v (wordR (fileR fs f) fs x z t ⟨n, l, c⟩ bg d).1.2.1) [] (wordR (fileR fs f) fs x z t ⟨n, l, c⟩ bg d).1.2.2 H' ∧ Moved b sp w H w' H' ∧
        (((wordR (fileR fs f) fs x z t ⟨n, l, c⟩ bg d).1.1.1 == 0) = true → ScanAt w' sp n s (wordR (fileR fs f) fs x z t ⟨n, l, c⟩ bg d).2) := by
  cases hi : (t.toList == [36, 91])
  · have HT : wordR (fileR fs f) fs x z t ⟨n, l, c⟩ bg d = ((if ((takeF d t ⟨n, l, c⟩).1 == 0) = true then noFlt else ((takeF d t ⟨n, l, c⟩).1, ⟨n, l, c⟩), bg, (takeF d t ⟨n, l, c⟩).2), z) := by
      unfold wordR; rw [hi]; simp
    rw [HT]
    refine (readWordTake_any b 93 v bg hbg d H _ t n l c w h hsm htx hin hi).mono ?_
    rintro e w' ⟨rfl, H', D', T'⟩
    exact ⟨rfl, H', D', T'.moved sp, fun _ => T'.1.get hsc (by rintro (e | e); exact hspb e; exact hsi e)⟩
  · have HT : wordR (fileR fs f) fs x z t ⟨n, l, c⟩ bg d = incR (fileR fs f) fs x z ⟨n, l, c⟩ bg d := by
      unfold wordR; rw [hi]; simp
    rw [HT]
    obtain ⟨W, hW⟩ : ∃ W, W = ((w.alloc (.cells #[.string t, .int .i64 0, .bool false, .string n, .int .i64 l, .int .i64 c] 107)).alloc (.cells #[.int .i64 0, .string ⟨#[]⟩, .int .i64 0, .int .i64 0] 47)) := ⟨_, rfl⟩
    have hK : Kept [] w W := by rw [hW]; exact ((Kept.refl [] w).alloc _).alloc _
    have hbw := h.lt
    have hspw := lt_of_get hsc
    have hI : W.heap[w.heap.size]? = some (.cells #[.string t, .int .i64 0, .bool false, .string n, .int .i64 l, .int .i64 c] 107 (0, 0)) := by
      rw [hW]; exact ((Kept.refl [] _).alloc _).get (heap_alloc_new _ _) (by simp)
    have hF : W.heap[w.heap.size + 1]? = some (.cells zeroFault 47 (0, 0)) := by
      rw [hW]
      have := heap_alloc_new (w.alloc (.cells #[.string t, .int .i64 0, .bool false, .string n, .int .i64 l, .int .i64 c] 107)) (.cells #[.int .i64 0, .string ⟨#[]⟩, .int .i64 0, .int .i64 0] 47)
      simpa [zeroFault] using this
    have i0 : W.cell? ⟨w.heap.size, 0, none⟩ = some (.string t) := by rw [cell_of hI]; rfl
    have i3 : W.cell? ⟨w.heap.size, 3, none⟩ = some (.string n) := by rw [cell_of hI]; rfl
    have i4 : W.cell? ⟨w.heap.size, 4, none⟩ = some (.int .i64 l) := by rw [cell_of hI]; rfl
    have i5 : W.cell? ⟨w.heap.size, 5, none⟩ = some (.int .i64 c) := by rw [cell_of hI]; rfl
    have IC := include_any b v tt sp f x z fs more bg hbg d H n s l c W (h.still hK) hn hsd hs hz (hsc.kept hK (by simp)) (ht.kept hK (by simp)) hspb hvs hsi RF
    have HIC := (show Hid _ from IC)
    have HNI : Hid (∀ k, w.heap.size ≤ k → ¬ InH H k) := fun k hk hm => by have := h.inlt hm; omega
    have HW := (show Hid _ from hW.symm)
    have hFw := lt_of_get hF
    clear hW IC RF HT h
    generalize incR (fileR fs f) fs x z ⟨n, l, c⟩ bg d = R at *
    obtain ⟨⟨⟨r, pf, pl, pc⟩, bg', d'⟩, z'⟩ := R
    simp only [fltV] at HIC ⊢
    go_enter Tryz.func49, Tryz.ntmps49
    go_upto_region 1 with fail
    rw [HW.out]
    go_wp2_with fail
    refine Calls.mono HIC.out ?_
    rintro e w2 ⟨rfl, H2, D2, M2, hs2⟩
    have hF2 := M2.1.get hF (by rintro (e | e | e); omega; omega; exact HNI.out _ (by omega) e)
    obtain ⟨j0, j1, j2, j3⟩ := zero_cells hF2
    have y := free_of hF2
    have HA' := (show Hid _ from fun a0 a1 a2 a3 => flt_moved D2 (M2.first hK) (F := w.heap.size + 1) (by omega) (by omega) (M2.fresh _ hFw (HNI.out _ (by omega))) a0 a1 a2 a3)
    have HSC := (show Hid _ from fun a0 a1 a2 a3 hh => (hs2 hh).kept (four_in (r := w.heap.size + 1) a0 a1 a2 a3) (by simp; omega))
    clear hs2 i0 i3 i4 i5
    go_wp2
    exact bodyPost_ret (v := .agg #[.int .i64 r, .string pf, .int .i64 pl, .int .i64 pc]) (by simp [results, Tryz.results49, go_sem, j0, j1, j2, j3]) rfl
      ⟨rfl, H2, (HA'.out _ _ _ _).1, (HA'.out _ _ _ _).2, fun hh => HSC.out _ _ _ _ hh⟩

end Go.Proofs.YtkancbaldeeijaaGreat

/- Package reader: readFile. -/
namespace Go.Proofs.YtkancbaldeeijaaGreat
open Go.RowKit
attribute [local go_sem] build_fault build_nofault

theorem build_scan (w : World) (n d : ByteArray) (l c : Int) : (Instr.build 124 #[(0, .agg #[.string n, .string d]), (2, .int .i64 l), (3, .int .i64 c)]).run Tryz.prog w = .ok (.agg #[.string n, .string d, .int .i64 0, .int .i64 l, .int .i64 c]) w :=
  run_build w 124 _ _ (by kernel_rfl)
attribute [local go_sem] build_scan

set_option maxHeartbeats 400000 in
theorem newScan_any (n d : ByteArray) (w : World) :
    Calls Tryz.prog 45 #[.agg #[.string n, .string d]] w fun e w' => ∃ s, e = .returned (.pointer (some ⟨s, 0, none⟩)) ∧ w.heap.size ≤ s ∧ ScanAt w' s n d 0 ∧ Kept [] w w' := by
  go_enter Tryz.func45, Tryz.ntmps45
  go_wp2
  go_ret
  refine ⟨w.heap.size + 1, rfl, by omega, ?_, ((Kept.refl _ _).alloc _).alloc _⟩
  have := heap_alloc_new (w.alloc (.cells #[.string n, .string d] 57)) (.cells #[.string n, .string d, .int .i64 0, .int .i64 1, .int .i64 1] 124)
  simpa [ScanAt, scanCells, lineAt, colAt] using this

theorem Turned.beyond {b : Nat} {w wr w' : World} {H H1 : Nat → Hd} {S : List Nat} (T : Turned b w H wr H1) (k : Kept S wr w') (hS : ∀ x, x ∈ S → w.heap.size ≤ x) : Turned b w H w' H1 :=
  ⟨⟨k.os.trans T.1.os, k.tape.trans T.1.tape, k.output.trans T.1.output, Nat.le_trans T.1.size k.size, fun i hi hn => by
    rw [← T.1.block i hi hn]
    exact k.block i (Nat.lt_of_lt_of_le hi T.1.size) (fun hm => by have := hS i hm; omega)⟩, T.2⟩
/-- Behind a word: the scanner is new, so its moves do not count. -/
theorem Turned.word {b sp : Nat} {w wr w' : World} {H H1 H2 : Nat → Hd} (T : Turned b w H wr H1) (M : Moved b sp wr H1 w' H2) (hsp : w.heap.size ≤ sp) : Turned b w H w' H2 := by
  refine ⟨⟨M.1.os.trans T.1.os, M.1.tape.trans T.1.tape, M.1.output.trans T.1.output, Nat.le_trans T.1.size M.1.size, ?_⟩, ?_⟩
  · intro k hk hn
    rw [← T.1.block k hk hn]
    refine M.1.block k (Nat.lt_of_lt_of_le hk T.1.size) ?_
    rintro (e | e | hm)
    · exact hn (Or.inl e)
    · omega
    · rcases T.2 k hm with h | h
      · exact hn (Or.inr h)
      · omega
  · intro k hk
    rcases M.2 k hk with h | h
    · exact T.2 k h
    · exact Or.inr (Nat.le_trans T.1.size h)

theorem preOf_set (v : Nat) (bg : List Bool) (j : Nat) : (preOf v bg).set (1 + j) (.bool true) = preOf v (bg.set j true) := by
  unfold preOf
  rw [Nat.add_comm 1 j, List.set_cons_succ, List.map_set]
theorem preOf_at (v : Nat) (bg : List Bool) (j : Nat) (h : bg.length = 4) (hj : j < 4) : (preOf v bg)[1 + j]? = some (.bool (bg.getD j true)) := by
  unfold preOf
  rw [Nat.add_comm 1 j, List.getElem?_cons_succ, List.getElem?_map, List.getD_eq_getElem?_getD]
  rw [List.getElem?_eq_getElem (by omega)]; rfl

set_option maxHeartbeats 1000000 in
set_option maxRecDepth 100000 in
theorem readFile_begun (b v f j : Nat) (fs : List (ByteArray × ByteArray)) (bg : List Bool) (hbg : bg.length = 4) (d : Db) (H : Nat → Hd) (w : World) (hj : j < 4)
    (h : DbIs w b 93 (preOf v bg) [] d H) (hb : bg.getD j true = true) : FileSays b v fs f j bg d H w := by
  unfold FileSays fileR
  rw [if_pos hb]
  have hbw := h.lt
  have c1 := h.preCell (1 + j) (by rw [preOf_len v bg hbg]; omega)
  rw [preOf_at v bg j hbg hj, hb] at c1
  have HN : Hid (¬ InH H w.heap.size) := fun hm => by have := h.inlt hm; omega
  go_enter Tryz.func40, Tryz.ntmps40
  go_wp2
  exact bodyPost_ret (v := .agg #[.int .i64 0, .string ⟨#[]⟩, .int .i64 0, .int .i64 0]) (by simp [results, Tryz.results40, go_sem]) rfl
    ⟨rfl, H, h.still ((Kept.refl [] _).alloc _), (Turned.refl _ _ _).still ((Kept.refl [] _).alloc _)⟩

end Go.Proofs.YtkancbaldeeijaaGreat
