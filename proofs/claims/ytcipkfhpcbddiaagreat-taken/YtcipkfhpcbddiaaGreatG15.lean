/- Our texts: Pf3, Pf4, Pf5, Pf6, Pf7, Pf8. -/
import Derived.Deep.RegionHeld3
import Derived.Test.YtcipkfhpcbddiaaGreatG14
/- Package proofs: letters. -/
namespace Go.Proofs.YtcipkfhpcbddiaaGreat
open Go.RowKit
attribute [local go_sem] build_step build_unk

def takeLetF (c : Cmp) (n : Nat) (p : Pl) : Int × Cmp :=
  if 65 ≤ n ∧ n ≤ 84 then endNumF c (n - 64) p
  else if 85 ≤ n ∧ n ≤ 89 then (0, takeDigF c (n - 84))
  else if n = 90 ∧ c.behind = true then (0, { c with tagged := c.tagged ++ [c.steps.length - 1], behind := false })
  else if n = 63 ∧ c.digits = 0 then (0, addStepF c ⟨1, 0, p⟩)
  else (4, c)

set_option maxHeartbeats 2000000 in
set_option maxRecDepth 100000 in
theorem takeLetter_any (b : Nat) (c : Cmp) (H : Nat → Hd) (n : Nat) (f : ByteArray) (l co : Int) (w : World) (h : CmpIs w b c H) (ok : CmpOk c 10000000) (hn : n < 256) :
    Calls Tryz.prog 124 #[.pointer (some ⟨b, 0, none⟩), .int .u8 n, .agg #[.string f, .int .i64 l, .int .i64 co]] w fun e w' => e = .returned (.int .i64 (takeLetF c n ⟨f, l, co⟩).1) ∧ ∃ H', CmpIs w' b (takeLetF c n ⟨f, l, co⟩).2 H' ∧ Turned b w H w' H' := by
  have hsl := ok.steps
  have htl := ok.tagged
  obtain ⟨W, HW, K, B, p0, p1, p2⟩ := boxed' w f l co
  have hC := h.still K
  clear h
  obtain ⟨c0, c1, c2, c3, c4⟩ := hC.cells
  have hfr := BagIs.free hC
  have hbW := BagIs.lt hC
  by_cases h1 : 65 ≤ n ∧ n ≤ 84
  · have HT : Hid (takeLetF c n ⟨f, l, co⟩ = endNumF c (n - 64) ⟨f, l, co⟩) := if_pos h1
    have EN := fun (w' : World) (h' : CmpIs w' b c H) => endNumeral_any b c H (n - 64) f l co w' h' ok (by omega) (by omega)
    have HEN := (show Hid _ from EN)
    obtain ⟨a1, a2⟩ := h1
    have he : (n : Int) - 65 + 1 = ((n - 64 : Nat) : Int) := by omega
    clear EN c0 c1 c2 c3 c4
    generalize hq : n - 64 = q at *
    go_enter Tryz.func124, Tryz.ntmps124
    go_upto_region 1 with fail
    rw [HW.out]
    go_wp2_with fail
    refine (HEN.out _ hC).mono ?_
    rintro e w2 ⟨rfl, H2, D2, T2⟩
    go_wp2
    go_ret
    exact ⟨ret_int (by rw [HT.out]), H2, by rw [HT.out]; exact D2, Turned.first K T2⟩
  · by_cases h2 : 85 ≤ n ∧ n ≤ 89
    · have HT : Hid (takeLetF c n ⟨f, l, co⟩ = (0, takeDigF c (n - 84))) := by show _ = _; unfold takeLetF; rw [if_neg h1, if_pos h2]
      obtain ⟨a1, a2⟩ := h2
      have TD := fun (w' : World) (h' : CmpIs w' b c H) => takeDigit_any b c H (n - 84) w' h' ok (by omega)
      have HTD := (show Hid _ from TD)
      have he : (n : Int) - 85 + 1 = ((n - 84 : Nat) : Int) := by omega
      have h1' : ¬ n ≤ 84 := by omega
      clear TD c0 c1 c2 c3 c4 h1
      generalize hq : n - 84 = q at *
      go_enter Tryz.func124, Tryz.ntmps124
      go_upto_region 1 with fail
      rw [HW.out]
      go_wp2_with fail
      refine (HTD.out _ hC).mono ?_
      rintro e w2 ⟨rfl, D2, T2⟩
      go_wp2
      go_ret
      exact ⟨ret_int (by rw [HT.out]), H, by rw [HT.out]; exact D2, Turned.first K T2⟩
    · by_cases h3 : n = 90 ∧ c.behind = true
      · have HT : Hid (takeLetF c n ⟨f, l, co⟩ = (0, { c with tagged := c.tagged ++ [c.steps.length - 1], behind := false })) := by show _ = _; unfold takeLetF; rw [if_neg h1, if_neg h2, if_pos h3]
        obtain ⟨rfl, hbh⟩ := h3
        have hpos := ok.behind hbh
        rw [hbh] at c4
        obtain ⟨sl, hsl'⟩ : ∃ sl, c.steps.length - 1 = sl := ⟨_, rfl⟩
        have he : (c.steps.length : Int) - 1 = (sl : Int) := by omega
        rw [hsl'] at HT
        have hwr : IntKind.i64.wrap (sl : Int) = (sl : Int) := by rw [IntKind.wrap_i64]; omega
        obtain ⟨i0, hi, hz0, hz1, hz2⟩ := info_parts infoN
        have hD : Hid (CmpIs (W.alloc (.cells #[.int .i64 sl] 3)).drew b c H) := hC.still ((Kept.refl [] W).alloc _).drew
        have s2 : Hid (∀ j u, ([.int .i64 sl] : List Value)[j]? = some u → (W.alloc (.cells #[.int .i64 sl] 3)).drew.cell? ((⟨W.heap.size, 0, none⟩ : Addr).add j) = some u) := by
          intro j u hj
          have hk : (W.alloc (.cells #[.int .i64 sl] 3)).drew.heap[W.heap.size]? = some (.cells #[.int .i64 sl] 3 (0, 0)) := heap_alloc_new _ _
          rw [addr_add, cell_of hk]; simpa using hj
        have s3 : Hid (∀ u ∈ ([.int .i64 sl] : List Value), u.oneCell' = true) := by intro u hu; simp at hu; subst hu; rfl
        have s4 : Hid ((rowN c.tagged).n + 1 ≤ maxLen) := by show _ ≤ _; simp only [rowN]; unfold maxLen; omega
        have s5 : Hid (((rowN c.tagged).n + 1) * 8 ≤ 140737488355328) := by show _ ≤ _; simp only [rowN]; omega
        have hrw : Hid (∀ j, j ≠ 1 → rowC { c with tagged := c.tagged ++ [sl] } j = rowC c j) := by
          intro j hj
          match j, hj with
          | 0, _ => rfl
          | 1, hj => exact absurd rfl hj
          | 2, _ => rfl
          | m + 3, _ => rfl
        clear c0 c3 h1 h2 p0 p1 p2
        go_enter Tryz.func124, Tryz.ntmps124
        go_upto_region 1 with fail
        rw [HW.out]
        go_wp2_with fail
        go_region_law (refine step_append_row rfl (.tmp 44) (.tmp 51) 45 rfl i0 (.int .i64 0) 8 (H 1) (rowN c.tagged) Tryz.underlying45 hi hz0 hz1 hz2 rfl Nat.one_pos (by simp [Act.eval] <;> rfl) (BagIs.own hD.out 1) ⟨W.heap.size, 0, none⟩ 1 1 [.int .i64 sl] (by simp [Act.eval]) rfl s2.out s3.out Nat.one_pos s4.out s5.out ?_; intro g cap' w1 hw1 hgr hfresh; obtain ⟨k5, f5, HP⟩ := BagIs.app hD.out (cs' := cmpList { c with tagged := c.tagged ++ [sl] } (upd H 1 ⟨some ⟨g, 0, none⟩, cap'⟩)) (rows' := rowC { c with tagged := c.tagged ++ [sl] }) 1 1 g cap' ((rowN c.tagged).n + 1) _ hw1 (rowN_snoc c.tagged sl) hgr (by simpa using hfresh) hrw.out (.slice (H 1).ao c.tagged.length (H 1).cap) rfl (by simp [cmpList, upd, rowN]); clear hw1 hgr hfresh)
        all_goals
          have D2 := (show Hid _ from BagIs.set HP.out.1 4 (.bool false))
          have hb4 := (BagIs.cell HP.out.1 4)
          have hf4 := BagIs.free HP.out.1
          simp only [cmpList, List.getElem?_cons_succ, List.getElem?_cons_zero, hbh] at hb4
          clear c1 c2 c4 hfr k5 f5
          go_wp2
          go_ret
          exact ⟨ret_int (by rw [HT.out]), _, by rw [HT.out]; exact D2.out.1, ((HP.out.2.first ((Kept.refl [] _).alloc _).drew).first K).trans D2.out.2⟩
      · by_cases h4 : n = 63 ∧ c.digits = 0
        · have HT : Hid (takeLetF c n ⟨f, l, co⟩ = (0, addStepF c ⟨1, 0, ⟨f, l, co⟩⟩)) := by show _ = _; unfold takeLetF; rw [if_neg h1, if_neg h2, if_neg h3, if_pos h4]
          obtain ⟨rfl, hdz⟩ := h4
          rw [hdz] at c3
          clear c0 c1 c2 h1 h2 h3
          go_enter Tryz.func124, Tryz.ntmps124
          go_upto_region 1 with fail
          rw [HW.out]
          go_wp2_with fail
          refine (addStep_any b c H 1 0 f l co _ hC ok).mono ?_
          rintro e w2 ⟨rfl, H2, D2, T2, -⟩
          go_wp2
          go_ret
          exact ⟨ret_int (by rw [HT.out]), H2, by rw [HT.out]; exact D2, Turned.first K T2⟩
        · have HT : Hid (takeLetF c n ⟨f, l, co⟩ = (4, c)) := by show _ = _; unfold takeLetF; rw [if_neg h1, if_neg h2, if_neg h3, if_neg h4]
          clear c0 c1 c2
          by_cases e90 : n = 90
          · have hbh : c.behind = false := by
              cases hq : c.behind with
              | false => rfl
              | true => exact absurd ⟨e90, hq⟩ h3
            rw [hbh] at c4
            subst e90
            clear h1 h2 h3 h4
            go_enter Tryz.func124, Tryz.ntmps124
            go_upto_region 1 with fail
            rw [HW.out]
            go_wp2
            go_ret
            exact ⟨ret_int (by rw [HT.out]), H, by rw [HT.out]; exact hC, (Turned.refl _ _ _).still K⟩
          · by_cases e63 : n = 63
            · have hdz : ¬ c.digits = 0 := fun hh => h4 ⟨e63, hh⟩
              have hdz' : ((c.digits : Int) == 0) = false := beq_eq_false_iff_ne.2 (by omega)
              subst e63
              clear h1 h2 h3 h4 hdz
              go_enter Tryz.func124, Tryz.ntmps124
              go_upto_region 1 with fail
              rw [HW.out]
              go_wp2
              go_ret
              exact ⟨ret_int (by rw [HT.out]), H, by rw [HT.out]; exact hC, (Turned.refl _ _ _).still K⟩
            · have e1 : ((n : Int) == 90) = false := beq_eq_false_iff_ne.2 (by omega)
              have e2 : ((n : Int) == 63) = false := beq_eq_false_iff_ne.2 (by omega)
              clear h3 h4 c3 c4
              by_cases a1 : 65 ≤ n
              · have a2 : ¬ n ≤ 84 := by omega
                have a3 : 85 ≤ n := by omega
                have a4 : ¬ n ≤ 89 := by omega
                clear h1 h2
                go_enter Tryz.func124, Tryz.ntmps124
                go_upto_region 1 with fail
                rw [HW.out]
                go_wp2
                go_ret
                exact ⟨ret_int (by rw [HT.out]), H, by rw [HT.out]; exact hC, (Turned.refl _ _ _).still K⟩
              · have a3 : ¬ 85 ≤ n := by omega
                clear h1 h2
                go_enter Tryz.func124, Tryz.ntmps124
                go_upto_region 1 with fail
                rw [HW.out]
                go_wp2
                go_ret
                exact ⟨ret_int (by rw [HT.out]), H, by rw [HT.out]; exact hC, (Turned.refl _ _ _).still K⟩

end Go.Proofs.YtcipkfhpcbddiaaGreat

/- Package proofs: words of letters. -/
namespace Go.Proofs.YtcipkfhpcbddiaaGreat
open Go.RowKit

/-- What letters can leave of the bounds. -/
theorem CmpOk.letter {c : Cmp} {N : Nat} (h : CmpOk c N) (n : Nat) (p : Pl) : CmpOk (takeLetF c n p).2 (N + 1) := by
  have h1 := h.names
  have h2 := h.tagged
  have h3 := h.steps
  have h4 := h.digits
  have h5 := h.behind
  unfold takeLetF
  split
  · unfold endNumF addStepF
    split
    · exact ⟨by simp only; omega, by simp only; omega, by simp; omega, by simp, by simp⟩
    · split
      · exact ⟨by simp only; omega, by simp only; omega, by simp; omega, by simp, by simp⟩
      · exact ⟨by simp only; omega, by simp only; omega, by simp only; omega, by simp, h5⟩
  · split
    · next hc =>
      unfold takeDigF
      split
      · exact ⟨by simp only; omega, by simp only; omega, by simp only; omega, by simp only; omega, by simp⟩
      · exact ⟨by simp only; omega, by simp only; omega, by simp only; omega, by simp only; omega, by simp⟩
    · split
      · exact ⟨by simp only; omega, by simp; omega, by simp only; omega, by simp only; omega, by simp⟩
      · split
        · exact ⟨by simp only [addStepF]; omega, by simp only [addStepF]; omega, by simp [addStepF]; omega, by simp only [addStepF]; omega, by simp [addStepF]⟩
        · exact ⟨by simp only; omega, by simp only; omega, by simp only; omega, by simp only; omega, h5⟩

/-- The letters of a word from place j on: the rule that is broken, where; what was read. -/
def wordLet (t : ByteArray) (p : Pl) : Nat → Nat → Cmp → Flt × Cmp
  | 0, _, c => (noFlt, c)
  | f + 1, j, c =>
    if j < t.size then
      (if ((takeLetF c (byteAt t j).toNat { p with col := p.col + j }).1 == 0) = true then wordLet t p f (j + 1) (takeLetF c (byteAt t j).toNat { p with col := p.col + j }).2
       else (((takeLetF c (byteAt t j).toNat { p with col := p.col + j }).1, { p with col := p.col + j }), (takeLetF c (byteAt t j).toNat { p with col := p.col + j }).2))
    else (noFlt, c)
def wordLF (t : ByteArray) (p : Pl) (c : Cmp) : Flt × Cmp := wordLet t p (t.size + 1) 0 c
theorem wl_on (t : ByteArray) (p : Pl) (f j : Nat) (c : Cmp) (hj : j < t.size) (h : ((takeLetF c (byteAt t j).toNat { p with col := p.col + j }).1 == 0) = true) :
    wordLet t p (f + 1) j c = wordLet t p f (j + 1) (takeLetF c (byteAt t j).toNat { p with col := p.col + j }).2 := by rw [wordLet, if_pos hj, if_pos h]
theorem wl_stop (t : ByteArray) (p : Pl) (f j : Nat) (c : Cmp) (hj : j < t.size) (h : ((takeLetF c (byteAt t j).toNat { p with col := p.col + j }).1 == 0) = false) :
    wordLet t p (f + 1) j c = (((takeLetF c (byteAt t j).toNat { p with col := p.col + j }).1, { p with col := p.col + j }), (takeLetF c (byteAt t j).toNat { p with col := p.col + j }).2) := by rw [wordLet, if_pos hj, if_neg (by rw [h]; simp)]
theorem wl_end (t : ByteArray) (p : Pl) (f j : Nat) (c : Cmp) (hj : ¬ j < t.size) : wordLet t p (f + 1) j c = (noFlt, c) := by rw [wordLet, if_neg hj]

theorem build_pf (w : World) (r l c : Int) (n : ByteArray) : (Instr.build 141 #[(0, .int .i64 r), (1, .agg #[.string n, .int .i64 l, .int .i64 c])]).run Tryz.prog w = .ok (.agg #[.int .i64 r, .string n, .int .i64 l, .int .i64 c]) w :=
  run_build w 141 _ _ (by kernel_rfl)
theorem build_nopf (w : World) : (Instr.build 141 #[]).run Tryz.prog w = .ok (.agg #[.int .i64 0, .string ⟨#[]⟩, .int .i64 0, .int .i64 0]) w :=
  run_build w 141 _ _ (by kernel_rfl)
attribute [local go_sem] build_pf build_nopf

theorem zero_cellsP {w : World} {r : Nat} (h : w.heap[r]? = some (.cells zeroFault 141 (0, 0))) :
    w.cell? ⟨r, 0, none⟩ = some (.int .i64 0) ∧ w.cell? ⟨r, 1, none⟩ = some (.string ⟨#[]⟩) ∧ w.cell? ⟨r, 2, none⟩ = some (.int .i64 0) ∧ w.cell? ⟨r, 3, none⟩ = some (.int .i64 0) := by
  refine ⟨?_, ?_, ?_, ?_⟩ <;> (rw [cell_of h]; rfl)
/-- A call that answers a fault has written its variable. -/
theorem bag_flt {w w2 : World} {b t F : Nat} {cs : List Value} {rows : Nat → Row} {H H2 : Nat → Hd} (D : BagIs w2 b t cs rows H2) (T : Turned b w H w2 H2) (h1 : w.heap.size ≤ F) (h2 : b ≠ F) (h3 : ¬ InH H2 F) (a0 a1 a2 a3 : Value) :
    BagIs ((((w2.setCell ⟨F, 0, none⟩ a0).setCell ⟨F, 1, none⟩ a1).setCell ⟨F, 2, none⟩ a2).setCell ⟨F, 3, none⟩ a3) b t cs rows H2 ∧
    Turned b w H ((((w2.setCell ⟨F, 0, none⟩ a0).setCell ⟨F, 1, none⟩ a1).setCell ⟨F, 2, none⟩ a2).setCell ⟨F, 3, none⟩ a3) H2 := by
  refine ⟨D.kept (four_in _ _ _ _) (by simpa using h2) (fun x hx => by simp; rintro rfl; exact h3 hx), ?_, T.2⟩
  exact (((T.1.setCell (Or.inr h1) _).setCell (Or.inr h1) _).setCell (Or.inr h1) _).setCell (Or.inr h1) _

set_option maxHeartbeats 3000000 in
set_option maxRecDepth 100000 in
theorem takeWord_any (b : Nat) (c : Cmp) (H : Nat → Hd) (t f : ByteArray) (l co : Int) (w : World) (h : CmpIs w b c H) (N : Nat) (ok : CmpOk c N) (hN : N + t.size ≤ 10000000) (hco : -1000000000 ≤ co ∧ co ≤ 1000000000) :
    Calls Tryz.prog 104 #[.pointer (some ⟨b, 0, none⟩), .agg #[.string t, .string f, .int .i64 l, .int .i64 co]] w fun e w' => e = .returned (fltV (wordLF t ⟨f, l, co⟩ c).1) ∧ ∃ H', CmpIs w' b (wordLF t ⟨f, l, co⟩ c).2 H' ∧ Turned b w H w' H' := by
  obtain ⟨W, hW⟩ : ∃ W, W = (w.alloc (.cells #[.string t, .string f, .int .i64 l, .int .i64 co] 157)).alloc (.cells #[.int .i64 0, .string ⟨#[]⟩, .int .i64 0, .int .i64 0] 141) := ⟨_, rfl⟩
  have K : Kept [] w W := by rw [hW]; exact ((Kept.refl [] _).alloc _).alloc _
  have BW : W.heap[w.heap.size]? = some (.cells #[.string t, .string f, .int .i64 l, .int .i64 co] 157 (0, 0)) := by rw [hW]; exact ((Kept.refl [] _).alloc _).get (heap_alloc_new _ _) (by simp)
  have BF : W.heap[w.heap.size + 1]? = some (.cells zeroFault 141 (0, 0)) := by
    rw [hW]
    have := heap_alloc_new (w.alloc (.cells #[.string t, .string f, .int .i64 l, .int .i64 co] 157)) (.cells #[.int .i64 0, .string ⟨#[]⟩, .int .i64 0, .int .i64 0] 141)
    simpa [zeroFault] using this
  have hWs : W.heap.size = w.heap.size + 2 := by rw [hW]; simp
  have hbw := BagIs.lt h
  have HNI : Hid (∀ k, w.heap.size ≤ k → ¬ InH H k) := fun k hk hm => by have := BagIs.inlt h hm; omega
  have hC := h.still K
  have HW := (show Hid _ from hW.symm)
  have u0 : W.cell? ⟨w.heap.size, 0, none⟩ = some (.string t) := by rw [cell_of BW]; rfl
  have u1 : W.cell? ⟨w.heap.size, 1, none⟩ = some (.string f) := by rw [cell_of BW]; rfl
  have u2 : W.cell? ⟨w.heap.size, 2, none⟩ = some (.int .i64 l) := by rw [cell_of BW]; rfl
  have u3 : W.cell? ⟨w.heap.size, 3, none⟩ = some (.int .i64 co) := by rw [cell_of BW]; rfl
  clear hW
  go_enter Tryz.func104, Tryz.ntmps104
  go_upto_region 1 with fail
  rw [HW.out]
  go_wp2
  go_loopg [6] t.size (fun gk i wr => ∃ (j : Nat) (c' : Cmp) (H' : Nat → Hd) (fu : Nat), j ≤ t.size ∧ gk = t.size - j ∧ i = .int .i64 j ∧ CmpOk c' (N + j) ∧ t.size - j + 1 ≤ fu ∧ Hid (wordLF t ⟨f, l, co⟩ c = wordLet t ⟨f, l, co⟩ fu j c') ∧ CmpIs wr b c' H' ∧ Turned b w H wr H' ∧
    wr.heap[w.heap.size]? = some (.cells #[.string t, .string f, .int .i64 l, .int .i64 co] 157 (0, 0)) ∧ wr.heap[w.heap.size + 1]? = some (.cells zeroFault 141 (0, 0)) ∧ wr.heap[w.heap.size + 2]? = some (.cells #[.string f, .int .i64 l, .int .i64 (co + j)] 39 (0, 0)) ∧ ¬ InH H' w.heap.size ∧ ¬ InH H' (w.heap.size + 1) ∧ ¬ InH H' (w.heap.size + 2))
  case atStart =>
    refine ⟨0, c, H, t.size + 1, by omega, by omega, rfl, ok, by omega, rfl, hC.still ((Kept.refl [] _).alloc _), (Turned.refl _ _ _).still (K.alloc _), ((Kept.refl [] _).alloc _).get BW (by simp), ((Kept.refl [] _).alloc _).get BF (by simp), ?_, HNI.out _ (by omega), HNI.out _ (by omega), HNI.out _ (by omega)⟩
    rw [← hWs]
    have := heap_alloc_new W (.cells #[.string f, .int .i64 l, .int .i64 co] 39)
    simpa using this
  case round =>
    obtain ⟨j, c', H', fu, hj, hg, rfl, ok', hfu, hR, hC', hT, B1, B2, B3, n1, n2, n3⟩ := hrel
    clear u0 u1 u2 u3 BW BF hC HW
    have u0 : wr.cell? ⟨w.heap.size, 0, none⟩ = some (.string t) := by rw [cell_of B1]; rfl
    have v0 : wr.cell? ⟨w.heap.size + 2, 0, none⟩ = some (.string f) := by rw [cell_of B3]; rfl
    have v1 : wr.cell? ⟨w.heap.size + 2, 1, none⟩ = some (.int .i64 l) := by rw [cell_of B3]; rfl
    have v2 : wr.cell? ⟨w.heap.size + 2, 2, none⟩ = some (.int .i64 (co + j)) := by rw [cell_of B3]; rfl
    obtain ⟨fu', rfl⟩ : ∃ fu', fu = fu' + 1 := ⟨fu - 1, by omega⟩
    by_cases hlt : j < t.size
    · have hbt : (byteAt t j).toNat = t[j].toNat := by rw [byteAt_of t j hlt]; rfl
      have L1 := wl_on t ⟨f, l, co⟩ fu' j c' hlt
      have L2 := wl_stop t ⟨f, l, co⟩ fu' j c' hlt
      have OKN := ok'.letter t[j].toNat { (⟨f, l, co⟩ : Pl) with col := co + j }
      have h256 : t[j].toNat < 256 := UInt8.toNat_lt _
      have TL := fun (w' : World) (h' : CmpIs w' b c' H') => takeLetter_any b c' H' t[j].toNat f l (co + j) w' h' ⟨by have := ok'.names; omega, by have := ok'.tagged; omega, by have := ok'.steps; omega, by have := ok'.digits; omega, ok'.behind⟩ h256
      rw [hbt] at L1 L2
      simp only at L1 L2 OKN
      have HL1 := (show Hid _ from L1)
      have HL2 := (show Hid _ from L2)
      have HTL := (show Hid _ from TL)
      clear L1 L2 TL hbt
      generalize takeLetF c' t[j].toNat ⟨f, l, co + ↑j⟩ = Q at *
      obtain ⟨r, c2⟩ := Q
      simp only at HL1 HL2 HTL OKN
      have HCE : Hid (∀ (w9 : World) (H9 : Nat → Hd) (_ : Turned b wr.drew H' w9 H9), w9.heap[w.heap.size]? = some (.cells #[.string t, .string f, .int .i64 l, .int .i64 co] 157 (0, 0)) ∧ w9.heap[w.heap.size + 1]? = some (.cells zeroFault 141 (0, 0)) ∧ w9.heap[w.heap.size + 2]? = some (.cells #[.string f, .int .i64 l, .int .i64 (co + j)] 39 (0, 0))) := by
        intro w9 H9 T9
        exact ⟨T9.1.get (by exact B1) (by rintro (e | e); omega; exact n1 e), T9.1.get (by exact B2) (by rintro (e | e); omega; exact n2 e), T9.1.get (by exact B3) (by rintro (e | e); omega; exact n3 e)⟩
      have HCC : Hid (∀ (w9 : World) (H9 : Nat → Hd) (_ : Turned b wr.drew H' w9 H9), w9.cell? ⟨w.heap.size, 0, none⟩ = some (.string t) ∧ w9.cell? ⟨w.heap.size + 2, 0, none⟩ = some (.string f) ∧ w9.cell? ⟨w.heap.size + 2, 1, none⟩ = some (.int .i64 l) ∧ w9.cell? ⟨w.heap.size + 2, 2, none⟩ = some (.int .i64 (co + j))) := by
        intro w9 H9 T9
        obtain ⟨q1, q2, q3⟩ := HCE.out w9 H9 T9
        refine ⟨by rw [cell_of q1]; rfl, by rw [cell_of q3]; rfl, by rw [cell_of q3]; rfl, by rw [cell_of q3]; rfl⟩
      have hs1 := lt_of_get B1
      have hs2 := lt_of_get B2
      have hs3 := lt_of_get B3
      cases hr : (r == 0)
      · have hr' : (r != 0) = true := by simp [bne, hr]
        have HF := (show Hid _ from hR.out.trans (HL2.out hr))
        clear hR HL1 HL2
        go_upto_region 5 with fail
        go_region_held3 (fun w' => w'.cell? ⟨w.heap.size, 0, none⟩ = some (.string t) ∧ w'.cell? ⟨w.heap.size + 2, 0, none⟩ = some (.string f) ∧ w'.cell? ⟨w.heap.size + 2, 1, none⟩ = some (.int .i64 l) ∧ w'.cell? ⟨w.heap.size + 2, 2, none⟩ = some (.int .i64 (co + j))) (go_keep) (first | (go_at_call 124; refine (HTL.out _ (by exact hC'.still (Kept.refl [] _).drew)).mono ?_; rintro e w9 ⟨rfl, H9, D9, T9⟩; obtain ⟨x0, x1, x2, x3⟩ := HCC.out w9 H9 T9))
        all_goals
          obtain ⟨q1, q2, q3⟩ := HCE.out w9 H9 T9
          obtain ⟨j0, j1, j2, j3⟩ := zero_cellsP q2
          have y := free_of q2
          have m2 := T9.fresh (w.heap.size + 1) (by exact hs2) n2
          have HA := (show Hid _ from fun a0 a1 a2 a3 => bag_flt D9 (hT.trans (Turned.first (Kept.refl [] _).drew T9)) (F := w.heap.size + 1) (by omega) (by omega) m2 a0 a1 a2 a3)
          go_wp2
          exact bodyPost_ret (v := .agg #[.int .i64 r, .string f, .int .i64 l, .int .i64 (co + j)]) (by simp [results, Tryz.results104, go_sem, j0, j1, j2, j3]) rfl
            ⟨by rw [HF.out]; rfl, H9, by rw [HF.out]; exact (HA.out _ _ _ _).1, (HA.out _ _ _ _).2⟩
      · have hr' : (r != 0) = false := by simp [bne, hr]
        have HF := (show Hid _ from hR.out.trans (HL1.out hr))
        clear hR HL1 HL2
        go_upto_region 5 with fail
        go_region_held3 (fun w' => w'.cell? ⟨w.heap.size, 0, none⟩ = some (.string t) ∧ w'.cell? ⟨w.heap.size + 2, 0, none⟩ = some (.string f) ∧ w'.cell? ⟨w.heap.size + 2, 1, none⟩ = some (.int .i64 l) ∧ w'.cell? ⟨w.heap.size + 2, 2, none⟩ = some (.int .i64 (co + j))) (go_keep) (first | (go_at_call 124; refine (HTL.out _ (by exact hC'.still (Kept.refl [] _).drew)).mono ?_; rintro e w9 ⟨rfl, H9, D9, T9⟩; obtain ⟨x0, x1, x2, x3⟩ := HCC.out w9 H9 T9))
        all_goals
          obtain ⟨q1, q2, q3⟩ := HCE.out w9 H9 T9
          have y := free_of q3
          have m1 := T9.fresh w.heap.size (by exact hs1) n1
          have m2 := T9.fresh (w.heap.size + 1) (by exact hs2) n2
          have m3 := T9.fresh (w.heap.size + 2) (by exact hs3) n3
          have T9' := hT.trans (Turned.first (Kept.refl [] _).drew T9)
          go_wp2
          go_roundg (t.size - (j + 1))
          case measure => omega
          case rel =>
            have kk : Kept [w.heap.size + 2] w9 (w9.setCell ⟨w.heap.size + 2, 2, none⟩ (.int .i64 (co + ↑j + 1))) := (Kept.refl _ _).setCell (Or.inl (by simp)) _
            refine ⟨j + 1, c2, H9, fu', by omega, rfl, by go_num, by rw [← Nat.add_assoc]; exact OKN, by omega, HF.out, BagIs.kept D9 kk (by simp; omega) (by intro x hx; simp; rintro rfl; exact m3 hx), ⟨T9'.1.setCell (Or.inr (by simp)) _, T9'.2⟩, kk.get q1 (by simp), kk.get q2 (by simp), ?_, m1, m2, m3⟩
            rw [block_setCell q3, show co + (↑(j + 1) : Int) = co + ↑j + 1 by omega]; rfl
    · have HF := (show Hid _ from hR.out.trans (wl_end t ⟨f, l, co⟩ fu' j c' hlt))
      obtain ⟨j0, j1, j2, j3⟩ := zero_cellsP B2
      have y := free_of B2
      have HA := (show Hid _ from fun a0 a1 a2 a3 => bag_flt hC' hT (F := w.heap.size + 1) (by omega) (by omega) n2 a0 a1 a2 a3)
      clear hR
      go_wp2
      exact bodyPost_ret (v := .agg #[.int .i64 0, .string ⟨#[]⟩, .int .i64 0, .int .i64 0]) (by simp [results, Tryz.results104, go_sem, j0, j1, j2, j3]) rfl
        ⟨by rw [HF.out]; rfl, H', by rw [HF.out]; exact (HA.out _ _ _ _).1, (HA.out _ _ _ _).2⟩

end Go.Proofs.YtcipkfhpcbddiaaGreat

/- Package proofs: the block of labels. -/
namespace Go.Proofs.YtcipkfhpcbddiaaGreat
open Go.RowKit
attribute [local go_sem] build_pf build_nopf

def hasN (l : List Nat) (x : Nat) : Bool := l.any (fun y => y == x)
theorem hasN_hit (l : List Nat) (x k : Nat) (h : k < l.length) (he : hasN l x = hasN (l.drop k) x) (hb : (l[k] == x) = true) : hasN l x = true := by
  rw [he, List.drop_eq_getElem_cons h]; simp only [hasN, List.any_cons, hb, Bool.true_or]
theorem hasN_miss (l : List Nat) (x k : Nat) (h : k < l.length) (he : hasN l x = hasN (l.drop k) x) (hb : (l[k] == x) = false) : hasN l x = hasN (l.drop (k + 1)) x := by
  rw [he, List.drop_eq_getElem_cons h]; simp only [hasN, List.any_cons, hb, Bool.false_or]
theorem hasN_over (l : List Nat) (x k : Nat) (h : ¬ k < l.length) (he : hasN l x = hasN (l.drop k) x) : hasN l x = false := by
  rw [he, List.drop_of_length_le (by omega)]; rfl
theorem natInt_beq (a b : Nat) : ((a : Int) == (b : Int)) = (a == b) := by
  cases h : (a == b)
  · exact beq_eq_false_iff_ne.2 (by have := beq_eq_false_iff_ne.1 h; omega)
  · have := eq_of_beq h; subst this; simp

set_option maxHeartbeats 400000 in
theorem phas_any (hd : Hd) (l : List Nat) (x : Nat) (w : World) (ho : Owns w hd (rowN l)) (hl : l.length ≤ 1073741824) :
    Calls Tryz.prog 123 #[.slice hd.ao l.length hd.cap, .int .i64 x] w fun e w' => e = .returned (.bool (hasN l x)) ∧ w' = w := by
  obtain ⟨ao, cap⟩ := hd
  rcases ho.ways with ⟨e0, h0, _⟩ | ⟨g, cur, e1, _⟩
  · have h0' : l.length = 0 := h0
    have hl0 : l = [] := List.eq_nil_of_length_eq_zero h0'
    subst hl0
    clear ho h0 h0' hl e0
    go_enter Tryz.func123, Tryz.ntmps123
    go_wp2
    refine wp_loop_rounds 1 ?_
    rw [rounds_succ]
    go_wp2
    go_ret
    exact ⟨rfl, rfl⟩
  · simp only at e1
    subst e1
    go_enter Tryz.func123, Tryz.ntmps123
    go_wp2
    go_loopg [5] l.length (fun g i wr => ∃ k : Nat, k ≤ l.length ∧ g = l.length - k ∧ i = .int .i64 k ∧ Hid (hasN l x = hasN (l.drop k) x) ∧ wr = w)
    case atStart => exact ⟨0, by omega, by omega, rfl, rfl, rfl⟩
    case round =>
      obtain ⟨k, hk, hg, rfl, hs, rfl⟩ := hrel
      by_cases hlt : k < l.length
      · have c1 := ho.cell rfl k (.int .i64 l[k]) (nums_at l k hlt)
        cases hb : (l[k] == x)
        · have HM : Hid (hasN l x = hasN (l.drop (k + 1)) x) := hasN_miss l x k hlt hs.out hb
          have hb' := (natInt_beq l[k] x).trans hb
          clear hs ho hb
          go_wp2
          go_roundg (l.length - (k + 1))
          case measure => omega
          case rel => exact ⟨k + 1, by omega, rfl, by go_num, HM, rfl⟩
        · have HM : Hid (hasN l x = true) := hasN_hit l x k hlt hs.out hb
          have hb' := (natInt_beq l[k] x).trans hb
          clear hs ho hb
          go_wp2
          go_ret
          exact ⟨ret_bool HM.out.symm, rfl⟩
      · have HM : Hid (hasN l x = false) := hasN_over l x k hlt hs.out
        clear hs ho
        go_wp2
        go_ret
        exact ⟨ret_bool HM.out.symm, rfl⟩

/-- The block of labels from word i on: where it ends, or the fault; what may be named then. -/
def blockL (l : List St) (a : Nat) (fin : Pl) : Nat → List (ByteArray × Pl) → List Nat → (Nat × Flt) × List Nat
  | _, [], ns => ((0, (3, fin)), ns)
  | i, (t, p) :: r, ns =>
    if (t.toList == [41]) = true then ((i + 1, noFlt), ns)
    else match findHF l t a with
      | none => ((0, (2, p)), ns)
      | some n => if hasN ns n = true then ((0, (3, p)), ns) else blockL l a fin (i + 1) r (ns ++ [n])

/-- What is far from the record leaves it. -/
theorem RecAt.far {w w' : World} {rb ro : Nat} {l : List St} {H : Nat → Hd} {P : Nat → Prop} {M : Nat} (h : RecAt w rb ro l H) (k : KeptP P w w') (hP : ∀ x, P x → M ≤ x) (hM : ∀ x, InH H x → x < M) (hrb : rb < M) : RecAt w' rb ro l H := by
  obtain ⟨arr, t, h1, h2⟩ := h.cell
  exact ⟨⟨arr, t, k.get h1 (fun e => by have := hP _ e; omega), h2⟩, h.sts.keptP k (fun x hx e => by have := hP _ e; have := hM _ hx; omega)⟩

/-- The cells of a word of a proof. -/
theorem Owns.word {w : World} {h : Hd} {l : List (ByteArray × Pl)} (o : Owns w h (rowW l)) (k : Nat) (hk : k < l.length) :
    ∃ g, h.ao = some ⟨g, 0, none⟩ ∧ l.length ≤ h.cap ∧ h.cap ≤ 9223372036854775807 ∧ w.cell? ⟨g, k * 4, none⟩ = some (.string l[k].1) ∧ w.cell? ⟨g, k * 4 + 1, none⟩ = some (.string l[k].2.file) ∧ w.cell? ⟨g, k * 4 + 2, none⟩ = some (.int .i64 l[k].2.line) ∧ w.cell? ⟨g, k * 4 + 3, none⟩ = some (.int .i64 l[k].2.col) := by
  rcases o.ways with ⟨_, h0, _⟩ | ⟨g, cur, e1, e2, e3, e4, -⟩
  · have : l.length = 0 := h0
    omega
  · have c := fun j (hj : j < 4) v (hv : (wordV l[k])[j]? = some v) => o.cell e1 (k * 4 + j) v ((wordsV_at l k hk j hj).trans hv)
    exact ⟨g, e1, e3, by unfold maxLen at e4; exact e4, c 0 (by omega) _ rfl, c 1 (by omega) _ rfl, c 2 (by omega) _ rfl, c 3 (by omega) _ rfl⟩

theorem CmpOk.named {c : Cmp} {N : Nat} (h : CmpOk c N) (n : Nat) : CmpOk { c with names := c.names ++ [n] } (N + 1) :=
  ⟨by have := h.names; simp; omega, by have := h.tagged; simp only; omega, by have := h.steps; simp only; omega, by have := h.digits; simp only; omega, h.behind⟩

end Go.Proofs.YtcipkfhpcbddiaaGreat

/- Package proofs: takeBlock. -/
namespace Go.Proofs.YtcipkfhpcbddiaaGreat
open Go.RowKit
attribute [local go_sem] build_pf build_nopf

theorem blockL_at (l : List St) (a : Nat) (fin : Pl) (i : Nat) (ws : List (ByteArray × Pl)) (ns : List Nat) (hi : i < ws.length) :
    blockL l a fin i (ws.drop i) ns = if (ws[i].1.toList == [41]) = true then ((i + 1, noFlt), ns)
      else match findHF l ws[i].1 a with
        | none => ((0, (2, ws[i].2)), ns)
        | some n => if hasN ns n = true then ((0, (3, ws[i].2)), ns) else blockL l a fin (i + 1) (ws.drop (i + 1)) (ns ++ [n]) := by
  rw [List.drop_eq_getElem_cons hi]; rfl
theorem blockL_end (l : List St) (a : Nat) (fin : Pl) (i : Nat) (ws : List (ByteArray × Pl)) (ns : List Nat) (hi : ¬ i < ws.length) : blockL l a fin i (ws.drop i) ns = ((0, (3, fin)), ns) := by
  rw [List.drop_of_length_le (by omega)]; rfl

set_option maxHeartbeats 3000000 in
set_option maxRecDepth 100000 in
theorem takeBlock_any (b : Nat) (c : Cmp) (Hc : Nat → Hd) (rb ro a : Nat) (l : List St) (H : Nat → Hd) (w0 w : World) (h : CmpIs w b c Hc) (hr0 : RecAt w0 rb ro l H) (hk0 : Kept [] w0 w) (ha : a < l.length) (ok : RecOk l) (hcn : c.names.length ≤ 10000)
    (hb : w0.heap.size ≤ b) (hc : ∀ x, InH Hc x → w0.heap.size ≤ x) :
    Calls Tryz.prog 103 #[.pointer (some ⟨b, 0, none⟩), .pointer (some ⟨rb, ro, none⟩), .int .i64 a] w fun e w' =>
      e = .returned (.tuple #[.int .i64 (blockL l a l[a].fin 1 (l[a].proof.drop 1) c.names).1.1, fltV (blockL l a l[a].fin 1 (l[a].proof.drop 1) c.names).1.2]) ∧ ∃ Hc', CmpIs w' b { c with names := (blockL l a l[a].fin 1 (l[a].proof.drop 1) c.names).2 } Hc' ∧ Turned b w Hc w' Hc' := by
  obtain ⟨i0, hi0, hz0, hz1, hz2⟩ := info_parts infoN
  have hbw := BagIs.lt h
  have hr := hr0.still hk0
  have hlen := ok.len
  have hpl := ok.prfs a ha
  have HNI : Hid (∀ k, w.heap.size ≤ k → ¬ InH Hc k) := fun k hk hm => by have := BagIs.inlt h hm; omega
  obtain ⟨AO, HAO⟩ : ∃ AO, Hid ((H (11 + 2 * a)).ao = AO) := ⟨_, rfl⟩
  obtain ⟨W, hW⟩ : ∃ W, W = w.alloc (.cells #[.int .i64 0, .string ⟨#[]⟩, .int .i64 0, .int .i64 0] 141) := ⟨_, rfl⟩
  have K : Kept [] w W := by rw [hW]; exact (Kept.refl [] _).alloc _
  have BF : W.heap[w.heap.size]? = some (.cells zeroFault 141 (0, 0)) := by rw [hW]; exact heap_alloc_new _ _
  have HW := (show Hid _ from hW.symm)
  clear hW
  go_enter Tryz.func103, Tryz.ntmps103
  go_upto_region 1 with fail
  rw [HW.out]
  go_wp2_with fail
  refine (statement_any rb ro a l H _ (hr.still K) ha).mono ?_
  rintro e w1 ⟨rfl, hk1⟩
  unfold stVal
  rw [HAO.out]
  obtain ⟨W2, hW2⟩ : ∃ W2, W2 = w1.alloc (.cells #[.int .i64 l[a].kind, .string l[a].label, .slice (H (10 + 2 * a)).ao l[a].symbols.length (H (10 + 2 * a)).cap, .slice AO l[a].proof.length (H (11 + 2 * a)).cap, .string l[a].fin.file, .int .i64 l[a].fin.line, .int .i64 l[a].fin.col, .int .i64 l[a].til] 119) := ⟨_, rfl⟩
  have HW2 := (show Hid _ from hW2.symm)
  have K2 : Kept [] w W2 := by rw [hW2]; exact (K.trans hk1).alloc _
  have BT : W2.heap[w1.heap.size]? = some (.cells #[.int .i64 l[a].kind, .string l[a].label, .slice (H (10 + 2 * a)).ao l[a].symbols.length (H (10 + 2 * a)).cap, .slice AO l[a].proof.length (H (11 + 2 * a)).cap, .string l[a].fin.file, .int .i64 l[a].fin.line, .int .i64 l[a].fin.col, .int .i64 l[a].til] 119 (0, 0)) := by rw [hW2]; exact heap_alloc_new _ _
  have BF2 : W2.heap[w.heap.size]? = some (.cells zeroFault 141 (0, 0)) := by rw [hW2]; exact ((Kept.refl [] _).alloc _).get (hk1.get BF (by simp)) (by simp)
  have hs1 : w.heap.size < w1.heap.size := by have := lt_of_get (hk1.get BF (by simp)); omega
  clear hW2
  go_upto_region 2 with fail
  rw [HW2.out]
  clear HW HW2 hk1 BF K
  obtain ⟨TB, hTB⟩ : ∃ TB : Array Value, TB = #[.int .i64 l[a].kind, .string l[a].label, .slice (H (10 + 2 * a)).ao l[a].symbols.length (H (10 + 2 * a)).cap, .slice AO l[a].proof.length (H (11 + 2 * a)).cap, .string l[a].fin.file, .int .i64 l[a].fin.line, .int .i64 l[a].fin.col, .int .i64 l[a].til] := ⟨_, rfl⟩
  rw [← hTB] at BT
  have HTB := (show Hid _ from hTB)
  clear hTB
  go_wp2
  go_loopg [9] (l[a].proof.length - 1) (fun gk iv wr => ∃ (i : Nat) (ns : List Nat) (H1 : Nat → Hd), 1 ≤ i ∧ i ≤ 10001 ∧ gk = l[a].proof.length - i ∧ iv = .int .i64 i ∧ ns.length ≤ 10000 + i ∧ Hid (blockL l a l[a].fin 1 (l[a].proof.drop 1) c.names = blockL l a l[a].fin i (l[a].proof.drop i) ns) ∧ CmpIs wr b { c with names := ns } H1 ∧ Turned b w Hc wr H1 ∧
    wr.heap[w.heap.size]? = some (.cells zeroFault 141 (0, 0)) ∧ wr.heap[w1.heap.size]? = some (.cells TB 119 (0, 0)) ∧ ¬ InH H1 w.heap.size ∧ ¬ InH H1 w1.heap.size)
  case atStart => exact ⟨1, c.names, Hc, by omega, by omega, rfl, rfl, by omega, rfl, h.still K2, (Turned.refl _ _ _).still K2, BF2, BT, HNI.out _ (by omega), HNI.out _ (by omega)⟩
  case round =>
    obtain ⟨i, ns, H1, hi1, hi2, hg, rfl, hnl, hR, hC, hT, B1, B2, n1, n2⟩ := hrel
    clear BT BF2 K2
    have hP : ∀ x, (x = b ∨ InH Hc x) → w0.heap.size ≤ x := by
      rintro x (e | e)
      · omega
      · exact hc x e
    have hr' : RecAt wr rb ro l H := hr0.still (hk0.ofP hT.1 hP)
    have hOp := hr'.sts.prfs a l[a] (List.getElem?_eq_getElem ha)
    have hB1w := lt_of_get B1
    have hB2w := lt_of_get B2
    obtain ⟨z0, z1, z2, z3⟩ := zero_cellsP B1
    have yz := free_of B1
    by_cases hlt : i < l[a].proof.length
    · obtain ⟨gp, ep, ecap, ecap2, d0, d1, d2, d3⟩ := hOp.word i hlt
      obtain rfl : AO = some ⟨gp, 0, none⟩ := HAO.out.symm.trans ep
      have HEP := (show Hid _ from ep)
      have t3 : wr.cell? ⟨w1.heap.size, 3, none⟩ = some (.slice (some ⟨gp, 0, none⟩) l[a].proof.length (H (11 + 2 * a)).cap) := by rw [cell_of B2, HTB.out]; rfl
      clear ep
      have BL := blockL_at l a l[a].fin i l[a].proof ns hlt
      have HBL := (show Hid _ from hR.out.trans BL)
      clear BL hR hOp
      generalize hwd : l[a].proof[i] = wd at *
      obtain ⟨t, pf, pl, pc⟩ := wd
      simp only at d0 d1 d2 d3 HBL
      obtain ⟨W5, hW5⟩ : ∃ W5, W5 = wr.alloc (.cells #[.string t, .string pf, .int .i64 pl, .int .i64 pc] 157) := ⟨_, rfl⟩
      have K5 : Kept [] wr W5 := by rw [hW5]; exact (Kept.refl [] _).alloc _
      have B5 : W5.heap[wr.heap.size]? = some (.cells #[.string t, .string pf, .int .i64 pl, .int .i64 pc] 157 (0, 0)) := by rw [hW5]; exact heap_alloc_new _ _
      have HW5 := (show Hid _ from hW5.symm)
      have hgp : gp < wr.heap.size := (hr'.sts.prfs a l[a] (List.getElem?_eq_getElem ha)).lt (by unfold Hd.blk; rw [HEP.out]; rfl)
      clear hW5
      go_upto_region 6 with fail
      rw [HW5.out]
      clear HW5 d0 d1 d2 d3 t3 z0 z1 z2 z3 yz
      have v0 : W5.cell? ⟨wr.heap.size, 0, none⟩ = some (.string t) := by rw [cell_of B5]; rfl
      have v1 : W5.cell? ⟨wr.heap.size, 1, none⟩ = some (.string pf) := by rw [cell_of B5]; rfl
      have v2 : W5.cell? ⟨wr.heap.size, 2, none⟩ = some (.int .i64 pl) := by rw [cell_of B5]; rfl
      have v3 : W5.cell? ⟨wr.heap.size, 3, none⟩ = some (.int .i64 pc) := by rw [cell_of B5]; rfl
      have C5 := hC.still K5
      have T5 := hT.still K5
      have R5 := hr'.still K5
      have F5 := K5.get B1 (by simp)
      have S5 := K5.get B2 (by simp)
      obtain ⟨z0, z1, z2, z3⟩ := zero_cellsP F5
      have yz := free_of F5
      have HA := (show Hid _ from fun a0 a1 a2 a3 => bag_flt C5 T5 (F := w.heap.size) (Nat.le_refl _) (by omega) n1 a0 a1 a2 a3)
      cases ht : (t.toList == [41])
      · rcases hf : findHF l t a with _ | n
        · have HF : Hid (blockL l a l[a].fin 1 (l[a].proof.drop 1) c.names = ((0, (2, ⟨pf, pl, pc⟩)), ns)) := by show _ = _; rw [HBL.out, ht, hf]; simp
          clear HBL
          go_upto_region 10 with (go_at_call 105; refine (findHolding_any rb ro a t l H _ (by exact R5) (by omega)).mono ?_; rintro e w6 ⟨rfl, hw6⟩; rw [hw6, hf]; simp only [optV])
          go_region
          all_goals go_wp2
          all_goals exact bodyPost_ret (v := .tuple #[.int .i64 0, .agg #[.int .i64 2, .string pf, .int .i64 pl, .int .i64 pc]]) (by simp [results, Tryz.results103, go_sem, z0, z1, z2, z3]) rfl ⟨by rw [HF.out]; rfl, H1, by rw [HF.out]; exact (CmpIs.still (HA.out _ _ _ _).1 (Kept.refl [] _).drew), Turned.still (HA.out _ _ _ _).2 (Kept.refl [] _).drew⟩
        · obtain ⟨k0, k1, k2, k3, k4⟩ := C5.cells
          simp only at k0
          clear k1 k2 k3 k4
          have hON : Owns W5 (H1 0) (rowN ns) := BagIs.own C5 0
          cases hh : hasN ns n
          · have HF : Hid (blockL l a l[a].fin 1 (l[a].proof.drop 1) c.names = blockL l a l[a].fin (i + 1) (l[a].proof.drop (i + 1)) (ns ++ [n])) := by show _ = _; rw [HBL.out, ht, hf]; simp [hh]
            have hA6 := C5.still ((Kept.refl [] W5).alloc (.cells #[.int .i64 n] 3))
            have hfr := BagIs.free C5
            have hbW := BagIs.lt C5
            have hrw : Hid (∀ j, j ≠ 0 → rowC { c with names := ns ++ [n] } j = rowC { c with names := ns } j) := by
              intro j hj
              match j, hj with
              | 0, hj => exact absurd rfl hj
              | 1, _ => rfl
              | 2, _ => rfl
              | m + 3, _ => rfl
            clear HBL HA z0 z1 z2 z3 yz
            go_upto_region 13 with (first | (go_at_call 105; refine (findHolding_any rb ro a t l H _ (by exact R5) (by omega)).mono ?_; rintro e w6 ⟨rfl, hw6⟩; rw [hw6, hf]; simp only [optV]) | (go_at_call 123; refine (phas_any (H1 0) ns n _ (by exact hON) (by omega)).mono ?_; rintro e w7 ⟨rfl, hw7⟩; rw [hw7]))
            go_wp2_with (at_builtin; refine wpList_append_row _ rfl (.tmp 56) (.tmp 58) 45 rfl i0 (.int .i64 0) 8 (H1 0) (rowN ns) Tryz.underlying45 hi0 hz0 hz1 hz2 rfl Nat.one_pos rfl (by exact BagIs.own hA6 0) ⟨_, 0, none⟩ 1 1 [.int .i64 n] rfl rfl ?e1 ?e2 Nat.one_pos ?e3 ?e4 ?_)
            case e1 => intro j u hj; match j, hj with | 0, hj => simp at hj; subst hj; simp [Addr.add]
            case e2 => intro u hu; simp at hu; subst hu; rfl
            case e3 => simp only [rowN]; unfold maxLen; omega
            case e4 => simp only [rowN]; omega
            intro g8 cap8 w8 hw8 hgr8 hfresh8
            obtain ⟨k5, f5, HP⟩ := BagIs.app hA6 (cs' := cmpList { c with names := ns ++ [n] } (upd H1 0 ⟨some ⟨g8, 0, none⟩, cap8⟩)) (rows' := rowC { c with names := ns ++ [n] }) 0 0 g8 cap8 ((rowN ns).n + 1) _ hw8 (rowN_snoc ns n) hgr8 (by simpa using hfresh8) hrw.out (.slice (H1 0).ao ns.length (H1 0).cap) rfl (by simp [cmpList, upd, rowN])
            have T8 := (show Hid _ from (T5.still ((Kept.refl [] W5).alloc (.cells #[.int .i64 n] 3))).trans HP.out.2)
            have F8 : Hid ((w8.setCell ⟨b, 0, none⟩ (.slice (some ⟨g8, 0, none⟩) ((rowN ns).n + 1) cap8)).heap[w.heap.size]? = some (.cells zeroFault 141 (0, 0))) := HP.out.2.1.get (((Kept.refl [] W5).alloc _).get F5 (by simp)) (by rintro (e | e); omega; exact n1 e)
            have S8 : Hid ((w8.setCell ⟨b, 0, none⟩ (.slice (some ⟨g8, 0, none⟩) ((rowN ns).n + 1) cap8)).heap[w1.heap.size]? = some (.cells TB 119 (0, 0))) := HP.out.2.1.get (((Kept.refl [] W5).alloc _).get S5 (by simp)) (by rintro (e | e); omega; exact n2 e)
            have m1 : Hid (¬ InH (upd H1 0 ⟨some ⟨g8, 0, none⟩, cap8⟩) w.heap.size) := Turned.fresh HP.out.2 _ (by have := K5.size; simp; omega) n1
            have m2 : Hid (¬ InH (upd H1 0 ⟨some ⟨g8, 0, none⟩, cap8⟩) w1.heap.size) := Turned.fresh HP.out.2 _ (by have := K5.size; simp; omega) n2
            clear hw8 hgr8 hfresh8 k0 hfr hON hA6 v0 v1 v2 v3
            go_wp2
            go_roundg (l[a].proof.length - (i + 1))
            case measure => omega
            case rel => exact ⟨i + 1, ns ++ [n], _, by omega, by omega, rfl, by go_num, by simp; omega, HF.out, HP.out.1, T8.out, F8.out, S8.out, m1.out, m2.out⟩
          · have HF : Hid (blockL l a l[a].fin 1 (l[a].proof.drop 1) c.names = ((0, (3, ⟨pf, pl, pc⟩)), ns)) := by show _ = _; rw [HBL.out, ht, hf]; simp [hh]
            clear HBL
            go_upto_region 12 with (first | (go_at_call 105; refine (findHolding_any rb ro a t l H _ (by exact R5) (by omega)).mono ?_; rintro e w6 ⟨rfl, hw6⟩; rw [hw6, hf]; simp only [optV]) | (go_at_call 123; refine (phas_any (H1 0) ns n _ (by exact hON) (by omega)).mono ?_; rintro e w7 ⟨rfl, hw7⟩; rw [hw7]))
            go_region
            all_goals go_wp2
            all_goals exact bodyPost_ret (v := .tuple #[.int .i64 0, .agg #[.int .i64 3, .string pf, .int .i64 pl, .int .i64 pc]]) (by simp [results, Tryz.results103, go_sem, z0, z1, z2, z3]) rfl ⟨by rw [HF.out]; rfl, H1, by rw [HF.out]; exact (CmpIs.still (HA.out _ _ _ _).1 (Kept.refl [] _).drew), Turned.still (HA.out _ _ _ _).2 (Kept.refl [] _).drew⟩
      · have HF : Hid (blockL l a l[a].fin 1 (l[a].proof.drop 1) c.names = ((i + 1, noFlt), ns)) := by show _ = _; rw [HBL.out, ht]; simp
        clear HBL
        go_wp2
        exact bodyPost_ret (v := .tuple #[.int .i64 (i + 1), .agg #[.int .i64 0, .string ⟨#[]⟩, .int .i64 0, .int .i64 0]]) (by simp [results, Tryz.results103, go_sem, z0, z1, z2, z3]) rfl
          ⟨by rw [HF.out]; rfl, H1, by rw [HF.out]; exact (HA.out _ _ _ _).1, (HA.out _ _ _ _).2⟩
    · have HF : Hid (blockL l a l[a].fin 1 (l[a].proof.drop 1) c.names = ((0, (3, l[a].fin)), ns)) := hR.out.trans (blockL_end l a l[a].fin i l[a].proof ns hlt)
      have t3 : wr.cell? ⟨w1.heap.size, 3, none⟩ = some (.slice AO l[a].proof.length (H (11 + 2 * a)).cap) := by rw [cell_of B2, HTB.out]; rfl
      have t4 : wr.cell? ⟨w1.heap.size, 4, none⟩ = some (.string l[a].fin.file) := by rw [cell_of B2, HTB.out]; rfl
      have t5 : wr.cell? ⟨w1.heap.size, 5, none⟩ = some (.int .i64 l[a].fin.line) := by rw [cell_of B2, HTB.out]; rfl
      have t6 : wr.cell? ⟨w1.heap.size, 6, none⟩ = some (.int .i64 l[a].fin.col) := by rw [cell_of B2, HTB.out]; rfl
      have HA := (show Hid _ from fun a0 a1 a2 a3 => bag_flt hC hT (F := w.heap.size) (Nat.le_refl _) (by omega) n1 a0 a1 a2 a3)
      clear hR hOp
      go_upto_region 14 with fail
      go_region
      all_goals go_wp2
      all_goals exact bodyPost_ret (v := .tuple #[.int .i64 0, .agg #[.int .i64 3, .string l[a].fin.file, .int .i64 l[a].fin.line, .int .i64 l[a].fin.col]]) (by simp [results, Tryz.results103, go_sem, z0, z1, z2, z3]) rfl ⟨by rw [HF.out]; rfl, H1, by rw [HF.out]; exact (CmpIs.still (HA.out _ _ _ _).1 (Kept.refl [] _).drew), Turned.still (HA.out _ _ _ _).2 (Kept.refl [] _).drew⟩

end Go.Proofs.YtcipkfhpcbddiaaGreat

/- Package proofs: normal proofs. -/
namespace Go.Proofs.YtcipkfhpcbddiaaGreat
open Go.RowKit
attribute [local go_sem] build_pf build_nopf build_step build_unk

/-- The words of a normal proof as steps. -/
def normF (l : List St) (a : Nat) (fin : Pl) : List (ByteArray × Pl) → List Stp → List Stp × Flt
  | [], acc => if acc.length = 0 then ([], (1, fin)) else (acc, noFlt)
  | (t, p) :: r, acc =>
    if (t.toList == [63]) = true then normF l a fin r (acc ++ [⟨1, 0, p⟩])
    else match findHF l t a with
      | none => ([], (2, p))
      | some n => normF l a fin r (acc ++ [⟨2, n, p⟩])
theorem normF_at (l : List St) (a : Nat) (fin : Pl) (i : Nat) (ws : List (ByteArray × Pl)) (acc : List Stp) (hi : i < ws.length) :
    normF l a fin (ws.drop i) acc = if (ws[i].1.toList == [63]) = true then normF l a fin (ws.drop (i + 1)) (acc ++ [⟨1, 0, ws[i].2⟩])
      else match findHF l ws[i].1 a with
        | none => ([], (2, ws[i].2))
        | some n => normF l a fin (ws.drop (i + 1)) (acc ++ [⟨2, n, ws[i].2⟩]) := by
  rw [List.drop_eq_getElem_cons hi]; rfl
theorem normF_end (l : List St) (a : Nat) (fin : Pl) (i : Nat) (ws : List (ByteArray × Pl)) (acc : List Stp) (hi : ¬ i < ws.length) : normF l a fin (ws.drop i) acc = if acc.length = 0 then ([], (1, fin)) else (acc, noFlt) := by
  rw [List.drop_of_length_le (by omega)]; rfl

theorem kept4 {w wr : World} {F : Nat} (K : Kept [] w wr) (h1 : w.heap.size ≤ F) (a0 a1 a2 a3 : Value) : Kept [] w ((((wr.setCell ⟨F, 0, none⟩ a0).setCell ⟨F, 1, none⟩ a1).setCell ⟨F, 2, none⟩ a2).setCell ⟨F, 3, none⟩ a3) :=
  (((K.setCell (Or.inr h1) _).setCell (Or.inr h1) _).setCell (Or.inr h1) _).setCell (Or.inr h1) _
theorem kept5 {w wr : World} {F : Nat} (K : Kept [] w wr) (h1 : w.heap.size ≤ F) (a0 a1 a2 a3 a4 : Value) : Kept [] w (((((wr.setCell ⟨F, 0, none⟩ a0).setCell ⟨F, 1, none⟩ a1).setCell ⟨F, 2, none⟩ a2).setCell ⟨F, 3, none⟩ a3).setCell ⟨F, 4, none⟩ a4) :=
  ((((K.setCell (Or.inr h1) _).setCell (Or.inr h1) _).setCell (Or.inr h1) _).setCell (Or.inr h1) _).setCell (Or.inr h1) _

set_option maxHeartbeats 3000000 in
set_option maxRecDepth 100000 in
theorem readNormal_any (rb ro a : Nat) (l : List St) (H : Nat → Hd) (w : World) (hr : RecAt w rb ro l H) (ha : a < l.length) (ok : RecOk l) :
    Calls Tryz.prog 83 #[.pointer (some ⟨rb, ro, none⟩), .int .i64 a] w fun e w' => ∃ hd : Hd,
      e = .returned (.tuple #[.slice hd.ao (normF l a l[a].fin l[a].proof []).1.length hd.cap, fltV (normF l a l[a].fin l[a].proof []).2]) ∧ Owns w' hd (rowP (normF l a l[a].fin l[a].proof []).1) ∧ (∀ x, hd.blk = some x → w.heap.size ≤ x) ∧ Kept [] w w' := by
  obtain ⟨i0, hi0, hz0, hz1, hz2⟩ := info_parts infoP
  have hbw := hr.lt
  have hlen := ok.len
  have hpl := ok.prfs a ha
  obtain ⟨AO, HAO⟩ : ∃ AO, Hid ((H (11 + 2 * a)).ao = AO) := ⟨_, rfl⟩
  obtain ⟨W, hW⟩ : ∃ W, W = w.alloc (.cells #[.int .i64 0, .string ⟨#[]⟩, .int .i64 0, .int .i64 0] 141) := ⟨_, rfl⟩
  have K : Kept [] w W := by rw [hW]; exact (Kept.refl [] _).alloc _
  have BF : W.heap[w.heap.size]? = some (.cells zeroFault 141 (0, 0)) := by rw [hW]; exact heap_alloc_new _ _
  have HW := (show Hid _ from hW.symm)
  clear hW
  go_enter Tryz.func83, Tryz.ntmps83
  go_upto_region 1 with fail
  rw [HW.out]
  go_wp2_with fail
  refine (statement_any rb ro a l H _ (hr.still K) ha).mono ?_
  rintro e w1 ⟨rfl, hk1⟩
  unfold stVal
  rw [HAO.out]
  obtain ⟨W2, hW2⟩ : ∃ W2, W2 = w1.alloc (.cells #[.int .i64 l[a].kind, .string l[a].label, .slice (H (10 + 2 * a)).ao l[a].symbols.length (H (10 + 2 * a)).cap, .slice AO l[a].proof.length (H (11 + 2 * a)).cap, .string l[a].fin.file, .int .i64 l[a].fin.line, .int .i64 l[a].fin.col, .int .i64 l[a].til] 119) := ⟨_, rfl⟩
  have HW2 := (show Hid _ from hW2.symm)
  have K2 : Kept [] w W2 := by rw [hW2]; exact (K.trans hk1).alloc _
  obtain ⟨TB, hTB⟩ : ∃ TB : Array Value, TB = #[.int .i64 l[a].kind, .string l[a].label, .slice (H (10 + 2 * a)).ao l[a].symbols.length (H (10 + 2 * a)).cap, .slice AO l[a].proof.length (H (11 + 2 * a)).cap, .string l[a].fin.file, .int .i64 l[a].fin.line, .int .i64 l[a].fin.col, .int .i64 l[a].til] := ⟨_, rfl⟩
  have BT : W2.heap[w1.heap.size]? = some (.cells TB 119 (0, 0)) := by rw [hW2, hTB]; exact heap_alloc_new _ _
  have BF2 : W2.heap[w.heap.size]? = some (.cells zeroFault 141 (0, 0)) := by rw [hW2]; exact ((Kept.refl [] _).alloc _).get (hk1.get BF (by simp)) (by simp)
  have hs1 : w.heap.size < w1.heap.size := by have := lt_of_get (hk1.get BF (by simp)); omega
  have hsT := lt_of_get BT
  have HTB := (show Hid _ from hTB)
  clear hW2 hTB
  go_upto_region 2 with fail
  rw [HW2.out]
  clear HW HW2 hk1 BF K
  go_wp2
  go_loopg [7, 8] l[a].proof.length (fun gk sv iv wr => ∃ (i : Nat) (acc : List Stp) (hd : Hd), i ≤ l[a].proof.length ∧ gk = l[a].proof.length - i ∧ iv = .int .i64 i ∧ sv = .slice hd.ao acc.length hd.cap ∧ acc.length ≤ i ∧ Hid (normF l a l[a].fin l[a].proof [] = normF l a l[a].fin (l[a].proof.drop i) acc) ∧ Owns wr hd (rowP acc) ∧ (∀ x, hd.blk = some x → W2.heap.size ≤ x) ∧
    Kept [] W2 wr)
  case atStart => exact ⟨0, [], ⟨none, 0⟩, by omega, by omega, rfl, rfl, by simp, rfl, World.ownsRow_nil _ _ _ _, by intro x hx; simp [Hd.blk] at hx, Kept.refl _ _⟩
  case round =>
    obtain ⟨i, acc, hd, hi, hg, rfl, rfl, hal, hR, hO, hN, hK⟩ := hrel
    have KW := K2.trans hK
    have hr' := hr.still KW
    have B1 := hK.get BF2 (by simp)
    have B2 := hK.get BT (by simp)
    have hB1w := lt_of_get B1
    have hB2w := lt_of_get B2
    obtain ⟨z0, z1, z2, z3⟩ := zero_cellsP B1
    have yz := free_of B1
    have hOp := hr'.sts.prfs a l[a] (List.getElem?_eq_getElem ha)
    have hsW := K2.size
    by_cases hlt : i < l[a].proof.length
    · obtain ⟨gp, ep, ecap, ecap2, d0, d1, d2, d3⟩ := hOp.word i hlt
      obtain rfl : AO = some ⟨gp, 0, none⟩ := HAO.out.symm.trans ep
      have t3 : wr.cell? ⟨w1.heap.size, 3, none⟩ = some (.slice (some ⟨gp, 0, none⟩) l[a].proof.length (H (11 + 2 * a)).cap) := by rw [cell_of B2, HTB.out]; rfl
      have hgp : gp < wr.heap.size := hOp.lt (by unfold Hd.blk; rw [ep]; rfl)
      clear ep
      have BL := normF_at l a l[a].fin i l[a].proof acc hlt
      have HBL := (show Hid _ from hR.out.trans BL)
      clear BL hR hOp
      generalize hwd : l[a].proof[i] = wd at *
      obtain ⟨t, pf, pl, pc⟩ := wd
      simp only at d0 d1 d2 d3 HBL
      obtain ⟨W5, hW5⟩ : ∃ W5, W5 = (wr.alloc (.cells #[.string t, .string pf, .int .i64 pl, .int .i64 pc] 157)).alloc (.cells #[.int .i64 1, .int .i64 0, .string pf, .int .i64 pl, .int .i64 pc] 147) := ⟨_, rfl⟩
      have K5 : Kept [] wr W5 := by rw [hW5]; exact ((Kept.refl [] _).alloc _).alloc _
      have B5 : W5.heap[wr.heap.size]? = some (.cells #[.string t, .string pf, .int .i64 pl, .int .i64 pc] 157 (0, 0)) := by rw [hW5]; exact ((Kept.refl [] _).alloc _).get (heap_alloc_new _ _) (by simp)
      have S5 : W5.heap[wr.heap.size + 1]? = some (.cells #[.int .i64 1, .int .i64 0, .string pf, .int .i64 pl, .int .i64 pc] 147 (0, 0)) := by
        rw [hW5]
        have := heap_alloc_new (wr.alloc (.cells #[.string t, .string pf, .int .i64 pl, .int .i64 pc] 157)) (.cells #[.int .i64 1, .int .i64 0, .string pf, .int .i64 pl, .int .i64 pc] 147)
        simpa using this
      have HW5 := (show Hid _ from hW5.symm)
      clear hW5
      go_upto_region 8 with fail
      rw [HW5.out]
      clear HW5 d0 d1 d2 d3 t3 z0 z1 z2 z3 yz
      have v0 : W5.cell? ⟨wr.heap.size, 0, none⟩ = some (.string t) := by rw [cell_of B5]; rfl
      have v1 : W5.cell? ⟨wr.heap.size, 1, none⟩ = some (.string pf) := by rw [cell_of B5]; rfl
      have v2 : W5.cell? ⟨wr.heap.size, 2, none⟩ = some (.int .i64 pl) := by rw [cell_of B5]; rfl
      have v3 : W5.cell? ⟨wr.heap.size, 3, none⟩ = some (.int .i64 pc) := by rw [cell_of B5]; rfl
      have u0 : W5.cell? ⟨wr.heap.size + 1, 0, none⟩ = some (.int .i64 1) := by rw [cell_of S5]; rfl
      have u1 : W5.cell? ⟨wr.heap.size + 1, 1, none⟩ = some (.int .i64 0) := by rw [cell_of S5]; rfl
      have u2 : W5.cell? ⟨wr.heap.size + 1, 2, none⟩ = some (.string pf) := by rw [cell_of S5]; rfl
      have u3 : W5.cell? ⟨wr.heap.size + 1, 3, none⟩ = some (.int .i64 pl) := by rw [cell_of S5]; rfl
      have u4 : W5.cell? ⟨wr.heap.size + 1, 4, none⟩ = some (.int .i64 pc) := by rw [cell_of S5]; rfl
      have yu := free_of S5
      have hO5 : Owns W5 hd (rowP acc) := hO.moved (fun x hx => K5.block x (hO.lt hx) (by simp))
      have R5 := hr'.still K5
      have F5 := K5.get B1 (by simp)
      obtain ⟨z0, z1, z2, z3⟩ := zero_cellsP F5
      have yz := free_of F5
      have HK5 : Hid (Kept [] W2 W5) := hK.trans K5
      have hs5 := lt_of_get S5
      cases ht : (t.toList == [63])
      · have ht' : (t.toList != [63]) = true := by simp [bne, ht]
        rcases hf : findHF l t a with _ | n
        · have HF : Hid (normF l a l[a].fin l[a].proof [] = ([], (2, ⟨pf, pl, pc⟩))) := by show _ = _; rw [HBL.out, ht, hf]; simp
          clear HBL
          go_upto_region 11 with (go_at_call 105; refine (findHolding_any rb ro a t l H _ (by exact R5) (by omega)).mono ?_; rintro e w6 ⟨rfl, hw6⟩; rw [hw6, hf]; simp only [optV])
          go_region
          all_goals go_wp2
          all_goals exact bodyPost_ret (v := .tuple #[.slice none 0 0, .agg #[.int .i64 2, .string pf, .int .i64 pl, .int .i64 pc]]) (by simp [results, Tryz.results83, go_sem, z0, z1, z2, z3]) rfl ⟨⟨none, 0⟩, by rw [HF.out]; rfl, by rw [HF.out]; exact World.ownsRow_nil _ _ _ _, by intro x hx; simp [Hd.blk] at hx, (kept4 (K2.trans HK5.out) (Nat.le_refl _) _ _ _ _).drew⟩
        · have HF : Hid (normF l a l[a].fin l[a].proof [] = normF l a l[a].fin (l[a].proof.drop (i + 1)) (acc ++ [⟨2, n, ⟨pf, pl, pc⟩⟩])) := by show _ = _; rw [HBL.out, ht, hf]; simp
          clear HBL
          obtain ⟨W6, hW6⟩ : ∃ W6, W6 = ((((W5.setCell ⟨wr.heap.size + 1, 0, none⟩ (.int .i64 2)).setCell ⟨wr.heap.size + 1, 1, none⟩ (.int .i64 n)).setCell ⟨wr.heap.size + 1, 2, none⟩ (.string pf)).setCell ⟨wr.heap.size + 1, 3, none⟩ (.int .i64 pl)).setCell ⟨wr.heap.size + 1, 4, none⟩ (.int .i64 pc) := ⟨_, rfl⟩
          have k56 : Kept [wr.heap.size + 1] W5 W6 := by rw [hW6]; exact ((((((Kept.refl _ _).setCell (Or.inl (by simp)) _).setCell (Or.inl (by simp)) _).setCell (Or.inl (by simp)) _).setCell (Or.inl (by simp)) _).setCell (Or.inl (by simp)) _)
          have S6 : W6.heap[wr.heap.size + 1]? = some (.cells #[.int .i64 2, .int .i64 n, .string pf, .int .i64 pl, .int .i64 pc] 147 (0, 0)) := by
            rw [hW6, block_setCell (block_setCell (block_setCell (block_setCell (block_setCell S5 _ _) _ _) _ _) _ _)]; rfl
          have HK6 : Hid (Kept [] W2 W6) := by
            show Kept [] W2 W6
            rw [hW6]
            exact kept5 HK5.out (by have := hK.size; omega) _ _ _ _ _
          have hO6' : Owns W6 hd (rowP acc) := hO5.moved (fun x hx => k56.block x (hO5.lt hx) (by simp; rintro rfl; have := hO.lt hx; omega))
          have HW6 := (show Hid _ from hW6.symm)
          clear hW6 k56
          go_upto_region 13 with (go_at_call 105; refine (findHolding_any rb ro a t l H _ (by exact R5) (by omega)).mono ?_; rintro e w6 ⟨rfl, hw6⟩; rw [hw6, hf]; simp only [optV])
          rw [HW6.out]
          clear HW6 u0 u1 u2 u3 u4 yu
          have u0 : W6.cell? ⟨wr.heap.size + 1, 0, none⟩ = some (.int .i64 2) := by rw [cell_of S6]; rfl
          have u1 : W6.cell? ⟨wr.heap.size + 1, 1, none⟩ = some (.int .i64 n) := by rw [cell_of S6]; rfl
          have u2 : W6.cell? ⟨wr.heap.size + 1, 2, none⟩ = some (.string pf) := by rw [cell_of S6]; rfl
          have u3 : W6.cell? ⟨wr.heap.size + 1, 3, none⟩ = some (.int .i64 pl) := by rw [cell_of S6]; rfl
          have u4 : W6.cell? ⟨wr.heap.size + 1, 4, none⟩ = some (.int .i64 pc) := by rw [cell_of S6]; rfl
          have hO6 := hO6'.moved (fun x hx => ((Kept.refl [] W6).alloc (.cells #[.int .i64 2, .int .i64 n, .string pf, .int .i64 pl, .int .i64 pc] 147)).block x (hO6'.lt hx) (by simp))
          have K6 : Hid (Kept [] W2 (W6.alloc (.cells #[.int .i64 2, .int .i64 n, .string pf, .int .i64 pl, .int .i64 pc] 147))) := Kept.alloc HK6.out _
          clear z0 z1 z2 z3 yz v0 v1 v2 v3
          go_wp2_with (at_builtin; refine wpList_append_row _ rfl (.tmp 47) (.tmp 49) 139 rfl i0 (.agg #[.int .i64 0, .int .i64 0, .string ⟨#[]⟩, .int .i64 0, .int .i64 0]) 48 hd (rowP acc) Tryz.underlying139 hi0 hz0 hz1 hz2 rfl (Nat.succ_pos 4) rfl (by exact hO6) ⟨_, 0, none⟩ 1 1 (stepV ⟨2, n, ⟨pf, pl, pc⟩⟩) rfl rfl ?e1 (stepV_one _) Nat.one_pos ?e3 ?e4 ?_)
          case e1 =>
            intro j u hj
            have hk : (W6.alloc (.cells #[.int .i64 2, .int .i64 n, .string pf, .int .i64 pl, .int .i64 pc] 147)).heap[W6.heap.size]? = some (.cells #[.int .i64 2, .int .i64 n, .string pf, .int .i64 pl, .int .i64 pc] 147 (0, 0)) := heap_alloc_new _ _
            rw [addr_add, cell_of hk]; simpa [stepV] using hj
          case e3 => simp only [rowP]; unfold maxLen; omega
          case e4 => simp only [rowP]; omega
          intro g8 cap8 w8 hw8 hgr8 hfresh8
          rw [rowP_snoc acc ⟨2, n, ⟨pf, pl, pc⟩⟩] at hw8
          have hK8 := (K6.out).grown hgr8 hN
          have hg8 : W2.heap.size ≤ g8 := by
            rcases hfresh8 with e | e
            · exact hN g8 e
            · have := K6.out.size; simp at e this; omega
          have hEl : Hid ((rowP acc).n + 1 = (acc ++ [(⟨2, n, ⟨pf, pl, pc⟩⟩ : Stp)]).length) := by show _ = _; simp [rowP]
          rw [hEl.out]
          clear hgr8 hfresh8 hO6
          go_wp2
          go_roundg (l[a].proof.length - (i + 1))
          case measure => omega
          case rel => exact ⟨i + 1, acc ++ [⟨2, n, ⟨pf, pl, pc⟩⟩], ⟨some ⟨g8, 0, none⟩, cap8⟩, by omega, rfl, by go_num, rfl, by simp; omega, HF, hw8, by intro x hx; simp [Hd.blk] at hx; omega, hK8⟩
      · have ht' : (t.toList != [63]) = false := by simp [bne, ht]
        have HF : Hid (normF l a l[a].fin l[a].proof [] = normF l a l[a].fin (l[a].proof.drop (i + 1)) (acc ++ [⟨1, 0, ⟨pf, pl, pc⟩⟩])) := by show _ = _; rw [HBL.out, ht]; simp
        clear HBL
        have hO6 := hO5.moved (fun x hx => ((Kept.refl [] W5).alloc (.cells #[.int .i64 1, .int .i64 0, .string pf, .int .i64 pl, .int .i64 pc] 147)).block x (hO5.lt hx) (by simp))
        have K6 : Hid (Kept [] W2 (W5.alloc (.cells #[.int .i64 1, .int .i64 0, .string pf, .int .i64 pl, .int .i64 pc] 147))) := Kept.alloc HK5.out _
        clear z0 z1 z2 z3 yz
        go_upto_region 13 with fail
        clear v0 v1 v2 v3
        go_wp2_with (at_builtin; refine wpList_append_row _ rfl (.tmp 47) (.tmp 49) 139 rfl i0 (.agg #[.int .i64 0, .int .i64 0, .string ⟨#[]⟩, .int .i64 0, .int .i64 0]) 48 hd (rowP acc) Tryz.underlying139 hi0 hz0 hz1 hz2 rfl (Nat.succ_pos 4) rfl (by exact hO6) ⟨_, 0, none⟩ 1 1 (stepV ⟨1, 0, ⟨pf, pl, pc⟩⟩) rfl rfl ?e1 (stepV_one _) Nat.one_pos ?e3 ?e4 ?_)
        case e1 =>
          intro j u hj
          have hk : (W5.alloc (.cells #[.int .i64 1, .int .i64 0, .string pf, .int .i64 pl, .int .i64 pc] 147)).heap[W5.heap.size]? = some (.cells #[.int .i64 1, .int .i64 0, .string pf, .int .i64 pl, .int .i64 pc] 147 (0, 0)) := heap_alloc_new _ _
          rw [addr_add, cell_of hk]; simpa [stepV] using hj
        case e3 => simp only [rowP]; unfold maxLen; omega
        case e4 => simp only [rowP]; omega
        intro g8 cap8 w8 hw8 hgr8 hfresh8
        rw [rowP_snoc acc ⟨1, 0, ⟨pf, pl, pc⟩⟩] at hw8
        have hK8 := (K6.out).grown hgr8 hN
        have hg8 : W2.heap.size ≤ g8 := by
          rcases hfresh8 with e | e
          · exact hN g8 e
          · have := K6.out.size; simp at e this; omega
        have hEl : Hid ((rowP acc).n + 1 = (acc ++ [(⟨1, 0, ⟨pf, pl, pc⟩⟩ : Stp)]).length) := by show _ = _; simp [rowP]
        rw [hEl.out]
        clear hgr8 hfresh8 hO6
        go_wp2
        go_roundg (l[a].proof.length - (i + 1))
        case measure => omega
        case rel => exact ⟨i + 1, acc ++ [⟨1, 0, ⟨pf, pl, pc⟩⟩], ⟨some ⟨g8, 0, none⟩, cap8⟩, by omega, rfl, by go_num, rfl, by simp; omega, HF, hw8, by intro x hx; simp [Hd.blk] at hx; omega, hK8⟩
    · have HF : Hid (normF l a l[a].fin l[a].proof [] = if acc.length = 0 then ([], (1, l[a].fin)) else (acc, noFlt)) := hR.out.trans (normF_end l a l[a].fin i l[a].proof acc hlt)
      have t3 : wr.cell? ⟨w1.heap.size, 3, none⟩ = some (.slice AO l[a].proof.length (H (11 + 2 * a)).cap) := by rw [cell_of B2, HTB.out]; rfl
      have t4 : wr.cell? ⟨w1.heap.size, 4, none⟩ = some (.string l[a].fin.file) := by rw [cell_of B2, HTB.out]; rfl
      have t5 : wr.cell? ⟨w1.heap.size, 5, none⟩ = some (.int .i64 l[a].fin.line) := by rw [cell_of B2, HTB.out]; rfl
      have t6 : wr.cell? ⟨w1.heap.size, 6, none⟩ = some (.int .i64 l[a].fin.col) := by rw [cell_of B2, HTB.out]; rfl
      clear hR hOp
      by_cases hz : acc.length = 0
      · have hz1 : ((acc.length : Int) == 0) = true := by simp [hz]
        have HF2 : Hid (normF l a l[a].fin l[a].proof [] = ([], (1, l[a].fin))) := by show _ = _; rw [HF.out, if_pos hz]
        clear HF hz
        go_upto_region 15 with fail
        go_region
        all_goals go_wp2
        all_goals exact bodyPost_ret (v := .tuple #[.slice none 0 0, .agg #[.int .i64 1, .string l[a].fin.file, .int .i64 l[a].fin.line, .int .i64 l[a].fin.col]]) (by simp [results, Tryz.results83, go_sem, z0, z1, z2, z3]) rfl ⟨⟨none, 0⟩, by rw [HF2.out]; rfl, by rw [HF2.out]; exact World.ownsRow_nil _ _ _ _, by intro x hx; simp [Hd.blk] at hx, (kept4 KW (Nat.le_refl _) _ _ _ _).drew⟩
      · have hz1 : ((acc.length : Int) == 0) = false := beq_eq_false_iff_ne.2 (by omega)
        have HF2 : Hid (normF l a l[a].fin l[a].proof [] = (acc, noFlt)) := by show _ = _; rw [HF.out, if_neg hz]
        clear HF hz
        go_wp2
        exact bodyPost_ret (v := .tuple #[.slice hd.ao acc.length hd.cap, .agg #[.int .i64 0, .string ⟨#[]⟩, .int .i64 0, .int .i64 0]]) (by simp [results, Tryz.results83, go_sem, z0, z1, z2, z3]) rfl
          ⟨hd, by rw [HF2.out]; rfl, by rw [HF2.out]; exact hO.moved (fun x hx => (four_in (r := w.heap.size) _ _ _ _).block x (hO.lt hx) (by simp; rintro rfl; have := hN _ hx; omega)), fun x hx => Nat.le_trans hsW (hN x hx), kept4 KW (Nat.le_refl _) _ _ _ _⟩

end Go.Proofs.YtcipkfhpcbddiaaGreat

/- Package proofs: compressed proofs. -/
namespace Go.Proofs.YtcipkfhpcbddiaaGreat
open Go.RowKit

theorem build_cmp (w : World) (ao : Option Addr) (n c : Nat) : (Instr.build 171 #[(0, .slice ao n c)]).run Tryz.prog w = .ok (.agg #[.slice ao n c, .slice none 0 0, .slice none 0 0, .int .i64 0, .bool false]) w :=
  run_build w 171 _ _ (by kernel_rfl)
attribute [local go_sem] build_pf build_nopf build_cmp

/-- The words of letters behind the block. -/
def wordsLF : List (ByteArray × Pl) → Cmp → Flt × Cmp
  | [], c => (noFlt, c)
  | (t, p) :: r, c => if ((wordLF t p c).1.1 == 0) = true then wordsLF r (wordLF t p c).2 else wordLF t p c
def onw (f : Flt) (ws : List (ByteArray × Pl)) (c : Cmp) : Flt × Cmp := if (f.1 == 0) = true then wordsLF ws c else (f, c)
theorem onw_at (f : Flt) (ws : List (ByteArray × Pl)) (c : Cmp) (i : Nat) (hi : i < ws.length) (h : (f.1 == 0) = true) : onw f (ws.drop i) c = onw (wordLF ws[i].1 ws[i].2 c).1 (ws.drop (i + 1)) (wordLF ws[i].1 ws[i].2 c).2 := by
  unfold onw
  rw [if_pos h, List.drop_eq_getElem_cons hi]
  rfl
theorem onw_end (f : Flt) (ws : List (ByteArray × Pl)) (c : Cmp) (i : Nat) (hi : ¬ i < ws.length) (h : (f.1 == 0) = true) : onw f (ws.drop i) c = (noFlt, c) := by
  unfold onw
  rw [if_pos h, List.drop_of_length_le (by omega)]
  rfl
theorem onw_bad (f : Flt) (ws : List (ByteArray × Pl)) (c : Cmp) (h : (f.1 == 0) = false) : onw f ws c = (f, c) := by
  unfold onw
  rw [if_neg (by rw [h]; simp)]

theorem blockL_le (l : List St) (a : Nat) (fin : Pl) (ws : List (ByteArray × Pl)) (i : Nat) (ns : List Nat) : (blockL l a fin i ws ns).1.1 ≤ i + ws.length ∧ (blockL l a fin i ws ns).2.length ≤ ns.length + ws.length := by
  induction ws generalizing i ns with
  | nil => simp [blockL]
  | cons x r ih =>
    obtain ⟨t, p⟩ := x
    rw [blockL]
    split
    · simp
    · split
      · simp
      · split
        · simp
        · next n _ _ => have := ih (i + 1) (ns ++ [n]); simp at this ⊢; omega

theorem CmpOk.mono {c : Cmp} {N M : Nat} (h : CmpOk c N) (k : N ≤ M) : CmpOk c M := ⟨Nat.le_trans h.names k, Nat.le_trans h.tagged k, Nat.le_trans h.steps k, by have := h.digits; omega, h.behind⟩
theorem wordLet_ok (t : ByteArray) (p : Pl) (f : Nat) : ∀ (j : Nat) (c : Cmp) (N : Nat), CmpOk c (N + j) → j ≤ t.size → CmpOk (wordLet t p f j c).2 (N + t.size) := by
  induction f with
  | zero => intro j c N h hj; exact h.mono (by omega)
  | succ f ih =>
    intro j c N h hj
    rw [wordLet]
    split
    · next hlt =>
      have h2 := h.letter (byteAt t j).toNat { p with col := p.col + j }
      split
      · exact ih (j + 1) _ N (by rw [← Nat.add_assoc]; exact h2) (by omega)
      · exact h2.mono (by omega)
    · exact h.mono (by omega)
theorem wordLF_ok {c : Cmp} {N : Nat} (t : ByteArray) (p : Pl) (h : CmpOk c N) : CmpOk (wordLF t p c).2 (N + t.size) := wordLet_ok t p _ 0 c N h (Nat.zero_le _)

def sizes (ws : List (ByteArray × Pl)) : Nat := (ws.map (fun x => x.1.size)).sum
theorem sizes_drop (ws : List (ByteArray × Pl)) (i : Nat) (hi : i < ws.length) : sizes (ws.drop i) = ws[i].1.size + sizes (ws.drop (i + 1)) := by
  have e := List.drop_eq_getElem_cons hi
  simp only [sizes]; rw [e]; rfl
theorem sizes_le (ws : List (ByteArray × Pl)) (i : Nat) : sizes (ws.drop i) ≤ sizes ws := by
  induction i generalizing ws with
  | zero => simp
  | succ i ih =>
    cases ws with
    | nil => simp
    | cons x r => have := ih r; simp [sizes] at this ⊢; omega

/-- How great a theorem's proof is. -/
structure PrfOk (s : St) : Prop where
  size : sizes s.proof ≤ 1000000
  col : ∀ x ∈ s.proof, -1000000000 ≤ x.2.col ∧ x.2.col ≤ 1000000000

def compR (l : List St) (a : Nat) (s : St) : Flt × Cmp :=
  onw (blockL l a s.fin 1 (s.proof.drop 1) (hypsF l a)).1.2 (s.proof.drop (blockL l a s.fin 1 (s.proof.drop 1) (hypsF l a)).1.1) ⟨(blockL l a s.fin 1 (s.proof.drop 1) (hypsF l a)).2, [], [], 0, false⟩
def compE (fin : Pl) (R : Flt × Cmp) : List Stp × Flt :=
  if (R.1.1 == 0) = true then
    (if R.2.digits = 0 then (if R.2.steps.length = 0 then ([], (1, fin)) else (R.2.steps, noFlt)) else ([], (4, fin)))
  else ([], R.1)
/-- A compressed proof as steps. -/
def compF (l : List St) (a : Nat) (s : St) : List Stp × Flt := compE s.fin (compR l a s)

def oneH (hd : Hd) : Nat → Hd
  | 0 => hd
  | _ + 1 => ⟨none, 0⟩
theorem bag_one {w : World} {hd : Hd} {t : Nat} {cs : List Value} {rows : Nat → Row} (o : Owns w hd (rows 0)) (n : ∀ i, Owns (w.alloc (.cells cs.toArray t)) ⟨none, 0⟩ (rows (i + 1))) : BagIs (w.alloc (.cells cs.toArray t)) w.heap.size t cs rows (oneH hd) := by
  refine ⟨heap_alloc_new _ _, ?_, ?_, ?_⟩
  · intro i
    cases i with
    | zero => exact o.moved (fun x hx => ((Kept.refl [] w).alloc _).block x (o.lt hx) (by simp))
    | succ i => exact n i
  · intro i j hne
    cases i with
    | zero =>
      cases j with
      | zero => exact absurd rfl hne
      | succ j =>
        have e2 : (oneH hd (j + 1)).blk = none := rfl
        rw [e2, show oneH hd 0 = hd from rfl]
        cases h : hd.blk with
        | none => exact Or.inl rfl
        | some x => right; simp
    | succ i => left; rfl
  · intro i
    cases i with
    | zero => intro e; have := o.lt e; omega
    | succ i => intro e; simp [oneH, Hd.blk] at e
theorem oneH_in {hd : Hd} {x : Nat} (h : InH (oneH hd) x) : hd.blk = some x := by
  obtain ⟨i, hi⟩ := h
  cases i with
  | zero => exact hi
  | succ i => simp [oneH, Hd.blk] at hi

end Go.Proofs.YtcipkfhpcbddiaaGreat
