/- Our texts: Pf3, Pf4, Pf5. -/
import Derived.Deep.RegionHeld3
import Derived.Test.YtkancbaldeeijaaGreatG17
/- Package proofs: letters. -/
namespace Go.Proofs.YtkancbaldeeijaaGreat
open Go.RowKit
attribute [local go_sem] build_step build_unk

def takeLetF (c : Cmp) (n : Nat) (p : Pl) : Int × Cmp :=
  if 65 ≤ n ∧ n ≤ 84 then endNumF c (n - 64) p
  else if 85 ≤ n ∧ n ≤ 89 then (0, takeDigF c (n - 84))
  else if n = 90 ∧ c.behind = true then (0, { c with tagged := c.tagged ++ [c.steps.length - 1], behind := false })
  else if n = 63 ∧ c.digits = 0 then (0, addStepF c ⟨1, 0, p⟩)
  else (4, c)

set_option maxHeartbeats 2000000 in
set_option maxRecDepth 100000 in
theorem takeLetter_any (b : Nat) (c : Cmp) (H : Nat → Hd) (n : Nat) (f : ByteArray) (l co : Int) (w : World) (h : CmpIs w b c H) (ok : CmpOk c 10000000) (hn : n < 256) :
    Calls Tryz.prog 107 #[.pointer (some ⟨b, 0, none⟩), .int .u8 n, .agg #[.string f, .int .i64 l, .int .i64 co]] w fun e w' => e = .returned (.int .i64 (takeLetF c n ⟨f, l, co⟩).1) ∧ ∃ H', CmpIs w' b (takeLetF c n ⟨f, l, co⟩).2 H' ∧ Turned b w H w' H' := by
  have hsl := ok.steps
  have htl := ok.tagged
  obtain ⟨W, HW, K, B, p0, p1, p2⟩ := boxed' w f l co
  have hC := h.still K
  clear h
  obtain ⟨c0, c1, c2, c3, c4⟩ := hC.cells
  have hfr := BagIs.free hC
  have hbW := BagIs.lt hC
  by_cases h1 : 65 ≤ n ∧ n ≤ 84
  · have HT : Hid (takeLetF c n ⟨f, l, co⟩ = endNumF c (n - 64) ⟨f, l, co⟩) := if_pos h1
    have EN := fun (w' : World) (h' : CmpIs w' b c H) => endNumeral_any b c H (n - 64) f l co w' h' ok (by omega) (by omega)
    have HEN := (show Hid _ from EN)
    obtain ⟨a1, a2⟩ := h1
    have he : (n : Int) - 65 + 1 = ((n - 64 : Nat) : Int) := by omega
    clear EN c0 c1 c2 c3 c4
    generalize hq : n - 64 = q at *
    go_enter Tryz.func107, Tryz.ntmps107
    go_upto_region 1 with fail
    rw [HW.out]
    go_wp2_with fail
    refine (HEN.out _ hC).mono ?_
    rintro e w2 ⟨rfl, H2, D2, T2⟩
    go_wp2
    go_ret
    exact ⟨ret_int (by rw [HT.out]), H2, by rw [HT.out]; exact D2, Turned.first K T2⟩
  · by_cases h2 : 85 ≤ n ∧ n ≤ 89
    · have HT : Hid (takeLetF c n ⟨f, l, co⟩ = (0, takeDigF c (n - 84))) := by show _ = _; unfold takeLetF; rw [if_neg h1, if_pos h2]
      obtain ⟨a1, a2⟩ := h2
      have TD := fun (w' : World) (h' : CmpIs w' b c H) => takeDigit_any b c H (n - 84) w' h' ok (by omega)
      have HTD := (show Hid _ from TD)
      have he : (n : Int) - 85 + 1 = ((n - 84 : Nat) : Int) := by omega
      have h1' : ¬ n ≤ 84 := by omega
      clear TD c0 c1 c2 c3 c4 h1
      generalize hq : n - 84 = q at *
      go_enter Tryz.func107, Tryz.ntmps107
      go_upto_region 1 with fail
      rw [HW.out]
      go_wp2_with fail
      refine (HTD.out _ hC).mono ?_
      rintro e w2 ⟨rfl, D2, T2⟩
      go_wp2
      go_ret
      exact ⟨ret_int (by rw [HT.out]), H, by rw [HT.out]; exact D2, Turned.first K T2⟩
    · by_cases h3 : n = 90 ∧ c.behind = true
      · have HT : Hid (takeLetF c n ⟨f, l, co⟩ = (0, { c with tagged := c.tagged ++ [c.steps.length - 1], behind := false })) := by show _ = _; unfold takeLetF; rw [if_neg h1, if_neg h2, if_pos h3]
        obtain ⟨rfl, hbh⟩ := h3
        have hpos := ok.behind hbh
        rw [hbh] at c4
        obtain ⟨sl, hsl'⟩ : ∃ sl, c.steps.length - 1 = sl := ⟨_, rfl⟩
        have he : (c.steps.length : Int) - 1 = (sl : Int) := by omega
        rw [hsl'] at HT
        have hwr : IntKind.i64.wrap (sl : Int) = (sl : Int) := by rw [IntKind.wrap_i64]; omega
        obtain ⟨i0, hi, hz0, hz1, hz2⟩ := info_parts infoN
        have hD : Hid (CmpIs (W.alloc (.cells #[.int .i64 sl] 3)).drew b c H) := hC.still ((Kept.refl [] W).alloc _).drew
        have s2 : Hid (∀ j u, ([.int .i64 sl] : List Value)[j]? = some u → (W.alloc (.cells #[.int .i64 sl] 3)).drew.cell? ((⟨W.heap.size, 0, none⟩ : Addr).add j) = some u) := by
          intro j u hj
          have hk : (W.alloc (.cells #[.int .i64 sl] 3)).drew.heap[W.heap.size]? = some (.cells #[.int .i64 sl] 3 (0, 0)) := heap_alloc_new _ _
          rw [addr_add, cell_of hk]; simpa using hj
        have s3 : Hid (∀ u ∈ ([.int .i64 sl] : List Value), u.oneCell' = true) := by intro u hu; simp at hu; subst hu; rfl
        have s4 : Hid ((rowN c.tagged).n + 1 ≤ maxLen) := by show _ ≤ _; simp only [rowN]; unfold maxLen; omega
        have s5 : Hid (((rowN c.tagged).n + 1) * 8 ≤ 140737488355328) := by show _ ≤ _; simp only [rowN]; omega
        have hrw : Hid (∀ j, j ≠ 1 → rowC { c with tagged := c.tagged ++ [sl] } j = rowC c j) := by
          intro j hj
          match j, hj with
          | 0, _ => rfl
          | 1, hj => exact absurd rfl hj
          | 2, _ => rfl
          | m + 3, _ => rfl
        clear c0 c3 h1 h2 p0 p1 p2
        go_enter Tryz.func107, Tryz.ntmps107
        go_upto_region 1 with fail
        rw [HW.out]
        go_wp2_with fail
        go_region_law (refine step_append_row rfl (.tmp 44) (.tmp 51) 35 rfl i0 (.int .i64 0) 8 (H 1) (rowN c.tagged) Tryz.underlying35 hi hz0 hz1 hz2 rfl Nat.one_pos (by simp [Act.eval] <;> rfl) (BagIs.own hD.out 1) ⟨W.heap.size, 0, none⟩ 1 1 [.int .i64 sl] (by simp [Act.eval]) rfl s2.out s3.out Nat.one_pos s4.out s5.out ?_; intro g cap' w1 hw1 hgr hfresh; obtain ⟨k5, f5, HP⟩ := BagIs.app hD.out (cs' := cmpList { c with tagged := c.tagged ++ [sl] } (upd H 1 ⟨some ⟨g, 0, none⟩, cap'⟩)) (rows' := rowC { c with tagged := c.tagged ++ [sl] }) 1 1 g cap' ((rowN c.tagged).n + 1) _ hw1 (rowN_snoc c.tagged sl) hgr (by simpa using hfresh) hrw.out (.slice (H 1).ao c.tagged.length (H 1).cap) rfl (by simp [cmpList, upd, rowN]); clear hw1 hgr hfresh)
        all_goals
          have D2 := (show Hid _ from BagIs.set HP.out.1 4 (.bool false))
          have hb4 := (BagIs.cell HP.out.1 4)
          have hf4 := BagIs.free HP.out.1
          simp only [cmpList, List.getElem?_cons_succ, List.getElem?_cons_zero, hbh] at hb4
          clear c1 c2 c4 hfr k5 f5
          go_wp2
          go_ret
          exact ⟨ret_int (by rw [HT.out]), _, by rw [HT.out]; exact D2.out.1, ((HP.out.2.first ((Kept.refl [] _).alloc _).drew).first K).trans D2.out.2⟩
      · by_cases h4 : n = 63 ∧ c.digits = 0
        · have HT : Hid (takeLetF c n ⟨f, l, co⟩ = (0, addStepF c ⟨1, 0, ⟨f, l, co⟩⟩)) := by show _ = _; unfold takeLetF; rw [if_neg h1, if_neg h2, if_neg h3, if_pos h4]
          obtain ⟨rfl, hdz⟩ := h4
          rw [hdz] at c3
          clear c0 c1 c2 h1 h2 h3
          go_enter Tryz.func107, Tryz.ntmps107
          go_upto_region 1 with fail
          rw [HW.out]
          go_wp2_with fail
          refine (addStep_any b c H 1 0 f l co _ hC ok).mono ?_
          rintro e w2 ⟨rfl, H2, D2, T2, -⟩
          go_wp2
          go_ret
          exact ⟨ret_int (by rw [HT.out]), H2, by rw [HT.out]; exact D2, Turned.first K T2⟩
        · have HT : Hid (takeLetF c n ⟨f, l, co⟩ = (4, c)) := by show _ = _; unfold takeLetF; rw [if_neg h1, if_neg h2, if_neg h3, if_neg h4]
          clear c0 c1 c2
          by_cases e90 : n = 90
          · have hbh : c.behind = false := by
              cases hq : c.behind with
              | false => rfl
              | true => exact absurd ⟨e90, hq⟩ h3
            rw [hbh] at c4
            subst e90
            clear h1 h2 h3 h4
            go_enter Tryz.func107, Tryz.ntmps107
            go_upto_region 1 with fail
            rw [HW.out]
            go_wp2
            go_ret
            exact ⟨ret_int (by rw [HT.out]), H, by rw [HT.out]; exact hC, (Turned.refl _ _ _).still K⟩
          · by_cases e63 : n = 63
            · have hdz : ¬ c.digits = 0 := fun hh => h4 ⟨e63, hh⟩
              have hdz' : ((c.digits : Int) == 0) = false := beq_eq_false_iff_ne.2 (by omega)
              subst e63
              clear h1 h2 h3 h4 hdz
              go_enter Tryz.func107, Tryz.ntmps107
              go_upto_region 1 with fail
              rw [HW.out]
              go_wp2
              go_ret
              exact ⟨ret_int (by rw [HT.out]), H, by rw [HT.out]; exact hC, (Turned.refl _ _ _).still K⟩
            · have e1 : ((n : Int) == 90) = false := beq_eq_false_iff_ne.2 (by omega)
              have e2 : ((n : Int) == 63) = false := beq_eq_false_iff_ne.2 (by omega)
              clear h3 h4 c3 c4
              by_cases a1 : 65 ≤ n
              · have a2 : ¬ n ≤ 84 := by omega
                have a3 : 85 ≤ n := by omega
                have a4 : ¬ n ≤ 89 := by omega
                clear h1 h2
                go_enter Tryz.func107, Tryz.ntmps107
                go_upto_region 1 with fail
                rw [HW.out]
                go_wp2
                go_ret
                exact ⟨ret_int (by rw [HT.out]), H, by rw [HT.out]; exact hC, (Turned.refl _ _ _).still K⟩
              · have a3 : ¬ 85 ≤ n := by omega
                clear h1 h2
                go_enter Tryz.func107, Tryz.ntmps107
                go_upto_region 1 with fail
                rw [HW.out]
                go_wp2
                go_ret
                exact ⟨ret_int (by rw [HT.out]), H, by rw [HT.out]; exact hC, (Turned.refl _ _ _).still K⟩

end Go.Proofs.YtkancbaldeeijaaGreat

/- Package proofs: words of letters. -/
namespace Go.Proofs.YtkancbaldeeijaaGreat
open Go.RowKit

/-- What letters can leave of the bounds. -/
theorem CmpOk.letter {c : Cmp} {N : Nat} (h : CmpOk c N) (n : Nat) (p : Pl) : CmpOk (takeLetF c n p).2 (N + 1) := by
  have h1 := h.names
  have h2 := h.tagged
  have h3 := h.steps
  have h4 := h.digits
  have h5 := h.behind
  unfold takeLetF
  split
  · unfold endNumF addStepF
    split
    · exact ⟨by simp only; omega, by simp only; omega, by simp; omega, by simp, by simp⟩
    · split
      · exact ⟨by simp only; omega, by simp only; omega, by simp; omega, by simp, by simp⟩
      · exact ⟨by simp only; omega, by simp only; omega, by simp only; omega, by simp, h5⟩
  · split
    · next hc =>
      unfold takeDigF
      split
      · exact ⟨by simp only; omega, by simp only; omega, by simp only; omega, by simp only; omega, by simp⟩
      · exact ⟨by simp only; omega, by simp only; omega, by simp only; omega, by simp only; omega, by simp⟩
    · split
      · exact ⟨by simp only; omega, by simp; omega, by simp only; omega, by simp only; omega, by simp⟩
      · split
        · exact ⟨by simp only [addStepF]; omega, by simp only [addStepF]; omega, by simp [addStepF]; omega, by simp only [addStepF]; omega, by simp [addStepF]⟩
        · exact ⟨by simp only; omega, by simp only; omega, by simp only; omega, by simp only; omega, h5⟩

/-- The letters of a word from place j on: the rule that is broken, where; what was read. -/
def wordLet (t : ByteArray) (p : Pl) : Nat → Nat → Cmp → Flt × Cmp
  | 0, _, c => (noFlt, c)
  | f + 1, j, c =>
    if j < t.size then
      (if ((takeLetF c (byteAt t j).toNat { p with col := p.col + j }).1 == 0) = true then wordLet t p f (j + 1) (takeLetF c (byteAt t j).toNat { p with col := p.col + j }).2
       else (((takeLetF c (byteAt t j).toNat { p with col := p.col + j }).1, { p with col := p.col + j }), (takeLetF c (byteAt t j).toNat { p with col := p.col + j }).2))
    else (noFlt, c)
def wordLF (t : ByteArray) (p : Pl) (c : Cmp) : Flt × Cmp := wordLet t p (t.size + 1) 0 c
theorem wl_on (t : ByteArray) (p : Pl) (f j : Nat) (c : Cmp) (hj : j < t.size) (h : ((takeLetF c (byteAt t j).toNat { p with col := p.col + j }).1 == 0) = true) :
    wordLet t p (f + 1) j c = wordLet t p f (j + 1) (takeLetF c (byteAt t j).toNat { p with col := p.col + j }).2 := by rw [wordLet, if_pos hj, if_pos h]
theorem wl_stop (t : ByteArray) (p : Pl) (f j : Nat) (c : Cmp) (hj : j < t.size) (h : ((takeLetF c (byteAt t j).toNat { p with col := p.col + j }).1 == 0) = false) :
    wordLet t p (f + 1) j c = (((takeLetF c (byteAt t j).toNat { p with col := p.col + j }).1, { p with col := p.col + j }), (takeLetF c (byteAt t j).toNat { p with col := p.col + j }).2) := by rw [wordLet, if_pos hj, if_neg (by rw [h]; simp)]
theorem wl_end (t : ByteArray) (p : Pl) (f j : Nat) (c : Cmp) (hj : ¬ j < t.size) : wordLet t p (f + 1) j c = (noFlt, c) := by rw [wordLet, if_neg hj]

theorem build_pf (w : World) (r l c : Int) (n : ByteArray) : (Instr.build 115 #[(0, .int .i64 r), (1, .agg #[.string n, .int .i64 l, .int .i64 c])]).run Tryz.prog w = .ok (.agg #[.int .i64 r, .string n, .int .i64 l, .int .i64 c]) w :=
  run_build w 115 _ _ (by kernel_rfl)
theorem build_nopf (w : World) : (Instr.build 115 #[]).run Tryz.prog w = .ok (.agg #[.int .i64 0, .string ⟨#[]⟩, .int .i64 0, .int .i64 0]) w :=
  run_build w 115 _ _ (by kernel_rfl)
attribute [local go_sem] build_pf build_nopf

theorem zero_cellsP {w : World} {r : Nat} (h : w.heap[r]? = some (.cells zeroFault 115 (0, 0))) :
    w.cell? ⟨r, 0, none⟩ = some (.int .i64 0) ∧ w.cell? ⟨r, 1, none⟩ = some (.string ⟨#[]⟩) ∧ w.cell? ⟨r, 2, none⟩ = some (.int .i64 0) ∧ w.cell? ⟨r, 3, none⟩ = some (.int .i64 0) := by
  refine ⟨?_, ?_, ?_, ?_⟩ <;> (rw [cell_of h]; rfl)
/-- A call that answers a fault has written its variable. -/
theorem bag_flt {w w2 : World} {b t F : Nat} {cs : List Value} {rows : Nat → Row} {H H2 : Nat → Hd} (D : BagIs w2 b t cs rows H2) (T : Turned b w H w2 H2) (h1 : w.heap.size ≤ F) (h2 : b ≠ F) (h3 : ¬ InH H2 F) (a0 a1 a2 a3 : Value) :
    BagIs ((((w2.setCell ⟨F, 0, none⟩ a0).setCell ⟨F, 1, none⟩ a1).setCell ⟨F, 2, none⟩ a2).setCell ⟨F, 3, none⟩ a3) b t cs rows H2 ∧
    Turned b w H ((((w2.setCell ⟨F, 0, none⟩ a0).setCell ⟨F, 1, none⟩ a1).setCell ⟨F, 2, none⟩ a2).setCell ⟨F, 3, none⟩ a3) H2 := by
  refine ⟨D.kept (four_in _ _ _ _) (by simpa using h2) (fun x hx => by simp; rintro rfl; exact h3 hx), ?_, T.2⟩
  exact (((T.1.setCell (Or.inr h1) _).setCell (Or.inr h1) _).setCell (Or.inr h1) _).setCell (Or.inr h1) _

set_option maxHeartbeats 3000000 in
set_option maxRecDepth 100000 in
theorem takeWord_any (b : Nat) (c : Cmp) (H : Nat → Hd) (t f : ByteArray) (l co : Int) (w : World) (h : CmpIs w b c H) (N : Nat) (ok : CmpOk c N) (hN : N + t.size ≤ 10000000) (hco : -1000000000 ≤ co ∧ co ≤ 1000000000) :
    Calls Tryz.prog 87 #[.pointer (some ⟨b, 0, none⟩), .agg #[.string t, .string f, .int .i64 l, .int .i64 co]] w fun e w' => e = .returned (fltV (wordLF t ⟨f, l, co⟩ c).1) ∧ ∃ H', CmpIs w' b (wordLF t ⟨f, l, co⟩ c).2 H' ∧ Turned b w H w' H' := by
  obtain ⟨W, hW⟩ : ∃ W, W = (w.alloc (.cells #[.string t, .string f, .int .i64 l, .int .i64 co] 131)).alloc (.cells #[.int .i64 0, .string ⟨#[]⟩, .int .i64 0, .int .i64 0] 115) := ⟨_, rfl⟩
  have K : Kept [] w W := by rw [hW]; exact ((Kept.refl [] _).alloc _).alloc _
  have BW : W.heap[w.heap.size]? = some (.cells #[.string t, .string f, .int .i64 l, .int .i64 co] 131 (0, 0)) := by rw [hW]; exact ((Kept.refl [] _).alloc _).get (heap_alloc_new _ _) (by simp)
  have BF : W.heap[w.heap.size + 1]? = some (.cells zeroFault 115 (0, 0)) := by
    rw [hW]
    have := heap_alloc_new (w.alloc (.cells #[.string t, .string f, .int .i64 l, .int .i64 co] 131)) (.cells #[.int .i64 0, .string ⟨#[]⟩, .int .i64 0, .int .i64 0] 115)
    simpa [zeroFault] using this
  have hWs : W.heap.size = w.heap.size + 2 := by rw [hW]; simp
  have hbw := BagIs.lt h
  have HNI : Hid (∀ k, w.heap.size ≤ k → ¬ InH H k) := fun k hk hm => by have := BagIs.inlt h hm; omega
  have hC := h.still K
  have HW := (show Hid _ from hW.symm)
  have u0 : W.cell? ⟨w.heap.size, 0, none⟩ = some (.string t) := by rw [cell_of BW]; rfl
  have u1 : W.cell? ⟨w.heap.size, 1, none⟩ = some (.string f) := by rw [cell_of BW]; rfl
  have u2 : W.cell? ⟨w.heap.size, 2, none⟩ = some (.int .i64 l) := by rw [cell_of BW]; rfl
  have u3 : W.cell? ⟨w.heap.size, 3, none⟩ = some (.int .i64 co) := by rw [cell_of BW]; rfl
  clear hW
  go_enter Tryz.func87, Tryz.ntmps87
  go_upto_region 1 with fail
  rw [HW.out]
  go_wp2
  go_loopg [6] t.size (fun gk i wr => ∃ (j : Nat) (c' : Cmp) (H' : Nat → Hd) (fu : Nat), j ≤ t.size ∧ gk = t.size - j ∧ i = .int .i64 j ∧ CmpOk c' (N + j) ∧ t.size - j + 1 ≤ fu ∧ Hid (wordLF t ⟨f, l, co⟩ c = wordLet t ⟨f, l, co⟩ fu j c') ∧ CmpIs wr b c' H' ∧ Turned b w H wr H' ∧
    wr.heap[w.heap.size]? = some (.cells #[.string t, .string f, .int .i64 l, .int .i64 co] 131 (0, 0)) ∧ wr.heap[w.heap.size + 1]? = some (.cells zeroFault 115 (0, 0)) ∧ wr.heap[w.heap.size + 2]? = some (.cells #[.string f, .int .i64 l, .int .i64 (co + j)] 45 (0, 0)) ∧ ¬ InH H' w.heap.size ∧ ¬ InH H' (w.heap.size + 1) ∧ ¬ InH H' (w.heap.size + 2))
  case atStart =>
    refine ⟨0, c, H, t.size + 1, by omega, by omega, rfl, ok, by omega, rfl, hC.still ((Kept.refl [] _).alloc _), (Turned.refl _ _ _).still (K.alloc _), ((Kept.refl [] _).alloc _).get BW (by simp), ((Kept.refl [] _).alloc _).get BF (by simp), ?_, HNI.out _ (by omega), HNI.out _ (by omega), HNI.out _ (by omega)⟩
    rw [← hWs]
    have := heap_alloc_new W (.cells #[.string f, .int .i64 l, .int .i64 co] 45)
    simpa using this
  case round =>
    obtain ⟨j, c', H', fu, hj, hg, rfl, ok', hfu, hR, hC', hT, B1, B2, B3, n1, n2, n3⟩ := hrel
    clear u0 u1 u2 u3 BW BF hC HW
    have u0 : wr.cell? ⟨w.heap.size, 0, none⟩ = some (.string t) := by rw [cell_of B1]; rfl
    have v0 : wr.cell? ⟨w.heap.size + 2, 0, none⟩ = some (.string f) := by rw [cell_of B3]; rfl
    have v1 : wr.cell? ⟨w.heap.size + 2, 1, none⟩ = some (.int .i64 l) := by rw [cell_of B3]; rfl
    have v2 : wr.cell? ⟨w.heap.size + 2, 2, none⟩ = some (.int .i64 (co + j)) := by rw [cell_of B3]; rfl
    obtain ⟨fu', rfl⟩ : ∃ fu', fu = fu' + 1 := ⟨fu - 1, by omega⟩
    by_cases hlt : j < t.size
    · have hbt : (byteAt t j).toNat = t[j].toNat := by rw [byteAt_of t j hlt]; rfl
      have L1 := wl_on t ⟨f, l, co⟩ fu' j c' hlt
      have L2 := wl_stop t ⟨f, l, co⟩ fu' j c' hlt
      have OKN := ok'.letter t[j].toNat { (⟨f, l, co⟩ : Pl) with col := co + j }
      have h256 : t[j].toNat < 256 := UInt8.toNat_lt _
      have TL := fun (w' : World) (h' : CmpIs w' b c' H') => takeLetter_any b c' H' t[j].toNat f l (co + j) w' h' ⟨by have := ok'.names; omega, by have := ok'.tagged; omega, by have := ok'.steps; omega, by have := ok'.digits; omega, ok'.behind⟩ h256
      rw [hbt] at L1 L2
      simp only at L1 L2 OKN
      have HL1 := (show Hid _ from L1)
      have HL2 := (show Hid _ from L2)
      have HTL := (show Hid _ from TL)
      clear L1 L2 TL hbt
      generalize takeLetF c' t[j].toNat ⟨f, l, co + ↑j⟩ = Q at *
      obtain ⟨r, c2⟩ := Q
      simp only at HL1 HL2 HTL OKN
      have HCE : Hid (∀ (w9 : World) (H9 : Nat → Hd) (_ : Turned b wr.drew H' w9 H9), w9.heap[w.heap.size]? = some (.cells #[.string t, .string f, .int .i64 l, .int .i64 co] 131 (0, 0)) ∧ w9.heap[w.heap.size + 1]? = some (.cells zeroFault 115 (0, 0)) ∧ w9.heap[w.heap.size + 2]? = some (.cells #[.string f, .int .i64 l, .int .i64 (co + j)] 45 (0, 0))) := by
        intro w9 H9 T9
        exact ⟨T9.1.get (by exact B1) (by rintro (e | e); omega; exact n1 e), T9.1.get (by exact B2) (by rintro (e | e); omega; exact n2 e), T9.1.get (by exact B3) (by rintro (e | e); omega; exact n3 e)⟩
      have HCC : Hid (∀ (w9 : World) (H9 : Nat → Hd) (_ : Turned b wr.drew H' w9 H9), w9.cell? ⟨w.heap.size, 0, none⟩ = some (.string t) ∧ w9.cell? ⟨w.heap.size + 2, 0, none⟩ = some (.string f) ∧ w9.cell? ⟨w.heap.size + 2, 1, none⟩ = some (.int .i64 l) ∧ w9.cell? ⟨w.heap.size + 2, 2, none⟩ = some (.int .i64 (co + j))) := by
        intro w9 H9 T9
        obtain ⟨q1, q2, q3⟩ := HCE.out w9 H9 T9
        refine ⟨by rw [cell_of q1]; rfl, by rw [cell_of q3]; rfl, by rw [cell_of q3]; rfl, by rw [cell_of q3]; rfl⟩
      have hs1 := lt_of_get B1
      have hs2 := lt_of_get B2
      have hs3 := lt_of_get B3
      cases hr : (r == 0)
      · have hr' : (r != 0) = true := by simp [bne, hr]
        have HF := (show Hid _ from hR.out.trans (HL2.out hr))
        clear hR HL1 HL2
        go_upto_region 5 with fail
        go_region_held3 (fun w' => w'.cell? ⟨w.heap.size, 0, none⟩ = some (.string t) ∧ w'.cell? ⟨w.heap.size + 2, 0, none⟩ = some (.string f) ∧ w'.cell? ⟨w.heap.size + 2, 1, none⟩ = some (.int .i64 l) ∧ w'.cell? ⟨w.heap.size + 2, 2, none⟩ = some (.int .i64 (co + j))) (go_keep) (first | (go_at_call 107; refine (HTL.out _ (by exact hC'.still (Kept.refl [] _).drew)).mono ?_; rintro e w9 ⟨rfl, H9, D9, T9⟩; obtain ⟨x0, x1, x2, x3⟩ := HCC.out w9 H9 T9))
        all_goals
          obtain ⟨q1, q2, q3⟩ := HCE.out w9 H9 T9
          obtain ⟨j0, j1, j2, j3⟩ := zero_cellsP q2
          have y := free_of q2
          have m2 := T9.fresh (w.heap.size + 1) (by exact hs2) n2
          have HA := (show Hid _ from fun a0 a1 a2 a3 => bag_flt D9 (hT.trans (Turned.first (Kept.refl [] _).drew T9)) (F := w.heap.size + 1) (by omega) (by omega) m2 a0 a1 a2 a3)
          go_wp2
          exact bodyPost_ret (v := .agg #[.int .i64 r, .string f, .int .i64 l, .int .i64 (co + j)]) (by simp [results, Tryz.results87, go_sem, j0, j1, j2, j3]) rfl
            ⟨by rw [HF.out]; rfl, H9, by rw [HF.out]; exact (HA.out _ _ _ _).1, (HA.out _ _ _ _).2⟩
      · have hr' : (r != 0) = false := by simp [bne, hr]
        have HF := (show Hid _ from hR.out.trans (HL1.out hr))
        clear hR HL1 HL2
        go_upto_region 5 with fail
        go_region_held3 (fun w' => w'.cell? ⟨w.heap.size, 0, none⟩ = some (.string t) ∧ w'.cell? ⟨w.heap.size + 2, 0, none⟩ = some (.string f) ∧ w'.cell? ⟨w.heap.size + 2, 1, none⟩ = some (.int .i64 l) ∧ w'.cell? ⟨w.heap.size + 2, 2, none⟩ = some (.int .i64 (co + j))) (go_keep) (first | (go_at_call 107; refine (HTL.out _ (by exact hC'.still (Kept.refl [] _).drew)).mono ?_; rintro e w9 ⟨rfl, H9, D9, T9⟩; obtain ⟨x0, x1, x2, x3⟩ := HCC.out w9 H9 T9))
        all_goals
          obtain ⟨q1, q2, q3⟩ := HCE.out w9 H9 T9
          have y := free_of q3
          have m1 := T9.fresh w.heap.size (by exact hs1) n1
          have m2 := T9.fresh (w.heap.size + 1) (by exact hs2) n2
          have m3 := T9.fresh (w.heap.size + 2) (by exact hs3) n3
          have T9' := hT.trans (Turned.first (Kept.refl [] _).drew T9)
          go_wp2
          go_roundg (t.size - (j + 1))
          case measure => omega
          case rel =>
            have kk : Kept [w.heap.size + 2] w9 (w9.setCell ⟨w.heap.size + 2, 2, none⟩ (.int .i64 (co + ↑j + 1))) := (Kept.refl _ _).setCell (Or.inl (by simp)) _
            refine ⟨j + 1, c2, H9, fu', by omega, rfl, by go_num, by rw [← Nat.add_assoc]; exact OKN, by omega, HF.out, BagIs.kept D9 kk (by simp; omega) (by intro x hx; simp; rintro rfl; exact m3 hx), ⟨T9'.1.setCell (Or.inr (by simp)) _, T9'.2⟩, kk.get q1 (by simp), kk.get q2 (by simp), ?_, m1, m2, m3⟩
            rw [block_setCell q3, show co + (↑(j + 1) : Int) = co + ↑j + 1 by omega]; rfl
    · have HF := (show Hid _ from hR.out.trans (wl_end t ⟨f, l, co⟩ fu' j c' hlt))
      obtain ⟨j0, j1, j2, j3⟩ := zero_cellsP B2
      have y := free_of B2
      have HA := (show Hid _ from fun a0 a1 a2 a3 => bag_flt hC' hT (F := w.heap.size + 1) (by omega) (by omega) n2 a0 a1 a2 a3)
      clear hR
      go_wp2
      exact bodyPost_ret (v := .agg #[.int .i64 0, .string ⟨#[]⟩, .int .i64 0, .int .i64 0]) (by simp [results, Tryz.results87, go_sem, j0, j1, j2, j3]) rfl
        ⟨by rw [HF.out]; rfl, H', by rw [HF.out]; exact (HA.out _ _ _ _).1, (HA.out _ _ _ _).2⟩

end Go.Proofs.YtkancbaldeeijaaGreat

/- Package proofs: the block of labels. -/
namespace Go.Proofs.YtkancbaldeeijaaGreat
open Go.RowKit
attribute [local go_sem] build_pf build_nopf

def hasN (l : List Nat) (x : Nat) : Bool := l.any (fun y => y == x)
theorem hasN_hit (l : List Nat) (x k : Nat) (h : k < l.length) (he : hasN l x = hasN (l.drop k) x) (hb : (l[k] == x) = true) : hasN l x = true := by
  rw [he, List.drop_eq_getElem_cons h]; simp only [hasN, List.any_cons, hb, Bool.true_or]
theorem hasN_miss (l : List Nat) (x k : Nat) (h : k < l.length) (he : hasN l x = hasN (l.drop k) x) (hb : (l[k] == x) = false) : hasN l x = hasN (l.drop (k + 1)) x := by
  rw [he, List.drop_eq_getElem_cons h]; simp only [hasN, List.any_cons, hb, Bool.false_or]
theorem hasN_over (l : List Nat) (x k : Nat) (h : ¬ k < l.length) (he : hasN l x = hasN (l.drop k) x) : hasN l x = false := by
  rw [he, List.drop_of_length_le (by omega)]; rfl
theorem natInt_beq (a b : Nat) : ((a : Int) == (b : Int)) = (a == b) := by
  cases h : (a == b)
  · exact beq_eq_false_iff_ne.2 (by have := beq_eq_false_iff_ne.1 h; omega)
  · have := eq_of_beq h; subst this; simp

set_option maxHeartbeats 400000 in
theorem phas_any (hd : Hd) (l : List Nat) (x : Nat) (w : World) (ho : Owns w hd (rowN l)) (hl : l.length ≤ 1073741824) :
    Calls Tryz.prog 106 #[.slice hd.ao l.length hd.cap, .int .i64 x] w fun e w' => e = .returned (.bool (hasN l x)) ∧ w' = w := by
  obtain ⟨ao, cap⟩ := hd
  rcases ho.ways with ⟨e0, h0, _⟩ | ⟨g, cur, e1, _⟩
  · have h0' : l.length = 0 := h0
    have hl0 : l = [] := List.eq_nil_of_length_eq_zero h0'
    subst hl0
    clear ho h0 h0' hl e0
    go_enter Tryz.func106, Tryz.ntmps106
    go_wp2
    refine wp_loop_rounds 1 ?_
    rw [rounds_succ]
    go_wp2
    go_ret
    exact ⟨rfl, rfl⟩
  · simp only at e1
    subst e1
    go_enter Tryz.func106, Tryz.ntmps106
    go_wp2
    go_loopg [5] l.length (fun g i wr => ∃ k : Nat, k ≤ l.length ∧ g = l.length - k ∧ i = .int .i64 k ∧ Hid (hasN l x = hasN (l.drop k) x) ∧ wr = w)
    case atStart => exact ⟨0, by omega, by omega, rfl, rfl, rfl⟩
    case round =>
      obtain ⟨k, hk, hg, rfl, hs, rfl⟩ := hrel
      by_cases hlt : k < l.length
      · have c1 := ho.cell rfl k (.int .i64 l[k]) (nums_at l k hlt)
        cases hb : (l[k] == x)
        · have HM : Hid (hasN l x = hasN (l.drop (k + 1)) x) := hasN_miss l x k hlt hs.out hb
          have hb' := (natInt_beq l[k] x).trans hb
          clear hs ho hb
          go_wp2
          go_roundg (l.length - (k + 1))
          case measure => omega
          case rel => exact ⟨k + 1, by omega, rfl, by go_num, HM, rfl⟩
        · have HM : Hid (hasN l x = true) := hasN_hit l x k hlt hs.out hb
          have hb' := (natInt_beq l[k] x).trans hb
          clear hs ho hb
          go_wp2
          go_ret
          exact ⟨ret_bool HM.out.symm, rfl⟩
      · have HM : Hid (hasN l x = false) := hasN_over l x k hlt hs.out
        clear hs ho
        go_wp2
        go_ret
        exact ⟨ret_bool HM.out.symm, rfl⟩

/-- The block of labels from word i on: where it ends, or the fault; what may be named then. -/
def blockL (l : List St) (a : Nat) (fin : Pl) : Nat → List (ByteArray × Pl) → List Nat → (Nat × Flt) × List Nat
  | _, [], ns => ((0, (3, fin)), ns)
  | i, (t, p) :: r, ns =>
    if (t.toList == [41]) = true then ((i + 1, noFlt), ns)
    else match findHF l t a with
      | none => ((0, (2, p)), ns)
      | some n => if hasN ns n = true then ((0, (3, p)), ns) else blockL l a fin (i + 1) r (ns ++ [n])

/-- What is far from the record leaves it. -/
theorem RecAt.far {w w' : World} {rb ro : Nat} {l : List St} {H : Nat → Hd} {P : Nat → Prop} {M : Nat} (h : RecAt w rb ro l H) (k : KeptP P w w') (hP : ∀ x, P x → M ≤ x) (hM : ∀ x, InH H x → x < M) (hrb : rb < M) : RecAt w' rb ro l H := by
  obtain ⟨arr, t, h1, h2⟩ := h.cell
  exact ⟨⟨arr, t, k.get h1 (fun e => by have := hP _ e; omega), h2⟩, h.sts.keptP k (fun x hx e => by have := hP _ e; have := hM _ hx; omega)⟩

/-- The cells of a word of a proof. -/
theorem Owns.word {w : World} {h : Hd} {l : List (ByteArray × Pl)} (o : Owns w h (rowW l)) (k : Nat) (hk : k < l.length) :
    ∃ g, h.ao = some ⟨g, 0, none⟩ ∧ l.length ≤ h.cap ∧ h.cap ≤ 9223372036854775807 ∧ w.cell? ⟨g, k * 4, none⟩ = some (.string l[k].1) ∧ w.cell? ⟨g, k * 4 + 1, none⟩ = some (.string l[k].2.file) ∧ w.cell? ⟨g, k * 4 + 2, none⟩ = some (.int .i64 l[k].2.line) ∧ w.cell? ⟨g, k * 4 + 3, none⟩ = some (.int .i64 l[k].2.col) := by
  rcases o.ways with ⟨_, h0, _⟩ | ⟨g, cur, e1, e2, e3, e4, -⟩
  · have : l.length = 0 := h0
    omega
  · have c := fun j (hj : j < 4) v (hv : (wordV l[k])[j]? = some v) => o.cell e1 (k * 4 + j) v ((wordsV_at l k hk j hj).trans hv)
    exact ⟨g, e1, e3, by unfold maxLen at e4; exact e4, c 0 (by omega) _ rfl, c 1 (by omega) _ rfl, c 2 (by omega) _ rfl, c 3 (by omega) _ rfl⟩

theorem CmpOk.named {c : Cmp} {N : Nat} (h : CmpOk c N) (n : Nat) : CmpOk { c with names := c.names ++ [n] } (N + 1) :=
  ⟨by have := h.names; simp; omega, by have := h.tagged; simp only; omega, by have := h.steps; simp only; omega, by have := h.digits; simp only; omega, h.behind⟩

end Go.Proofs.YtkancbaldeeijaaGreat
