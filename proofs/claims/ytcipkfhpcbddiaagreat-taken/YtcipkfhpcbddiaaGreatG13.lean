/- Our texts: Bag, RpR, Pf1. -/
import Derived.Test.YtcipkfhpcbddiaaGreatG10
import Derived.Test.YtcipkfhpcbddiaaGreatG12
/- A variable with several slices of its own in it: what stays, what a store leaves. -/
namespace Go.Proofs.YtcipkfhpcbddiaaGreat
open Go.RowKit

structure BagIs (w : World) (b t : Nat) (cs : List Value) (rows : Nat → Row) (H : Nat → Hd) : Prop where
  blk : w.heap[b]? = some (.cells cs.toArray t (0, 0))
  own : ∀ i, Owns w (H i) (rows i)
  apart : ∀ i j, i ≠ j → (H i).blk = none ∨ (H i).blk ≠ (H j).blk
  off : ∀ i, (H i).blk ≠ some b
theorem BagIs.lt {w : World} {b t : Nat} {cs : List Value} {rows : Nat → Row} {H : Nat → Hd} (h : BagIs w b t cs rows H) : b < w.heap.size := lt_of_get h.blk
theorem BagIs.inlt {w : World} {b t : Nat} {cs : List Value} {rows : Nat → Row} {H : Nat → Hd} (h : BagIs w b t cs rows H) {k : Nat} (hk : InH H k) : k < w.heap.size := by
  obtain ⟨i, hi⟩ := hk; exact (h.own i).lt hi
theorem BagIs.free {w : World} {b t : Nat} {cs : List Value} {rows : Nat → Row} {H : Nat → Hd} (h : BagIs w b t cs rows H) (i : Nat) : w.frozen? ⟨b, i, none⟩ = false := free_of h.blk i
theorem BagIs.cell {w : World} {b t : Nat} {cs : List Value} {rows : Nat → Row} {H : Nat → Hd} (h : BagIs w b t cs rows H) (i : Nat) : w.cell? ⟨b, i, none⟩ = cs[i]? := by rw [cell_of h.blk]; simp
theorem BagIs.keptP {w w' : World} {b t : Nat} {cs : List Value} {rows : Nat → Row} {H : Nat → Hd} {P : Nat → Prop} (h : BagIs w b t cs rows H) (hk : KeptP P w w') (hb : ¬ P b) (hs : ∀ k, InH H k → ¬ P k) : BagIs w' b t cs rows H :=
  ⟨hk.get h.blk hb, fun i => (h.own i).moved (fun k hk' => hk.block k ((h.own i).lt hk') (hs k ⟨i, hk'⟩)), h.apart, h.off⟩
theorem BagIs.kept {w w' : World} {b t : Nat} {cs : List Value} {rows : Nat → Row} {H : Nat → Hd} {S : List Nat} (h : BagIs w b t cs rows H) (hk : Kept S w w') (hb : b ∉ S) (hs : ∀ k, InH H k → k ∉ S) : BagIs w' b t cs rows H :=
  h.keptP (hk.toP (P := (· ∈ S)) (fun _ hm _ => hm)) hb hs
theorem BagIs.still {w w' : World} {b t : Nat} {cs : List Value} {rows : Nat → Row} {H : Nat → Hd} (h : BagIs w b t cs rows H) (hk : Kept [] w w') : BagIs w' b t cs rows H := h.kept hk (by simp) (by simp)

theorem BagIs.put {w w1 : World} {b t : Nat} {cs : List Value} {rows rows' : Nat → Row} {H : Nat → Hd} (h : BagIs w b t cs rows H) (c i : Nat) (h' : Hd)
    (o1 : Owns w1 h' (rows' i)) (hg : w.grownBy w1 (H i).blk)
    (hf : h'.blk = none ∨ h'.blk = (H i).blk ∨ ∃ g, h'.blk = some g ∧ w.heap.size ≤ g) (hrow : ∀ j, j ≠ i → rows' j = rows j) (u : Value) :
    BagIs (w1.setCell ⟨b, c, none⟩ u) b t (cs.set c u) rows' (upd H i h') ∧ Turned b w H (w1.setCell ⟨b, c, none⟩ u) (upd H i h') := by
  have hb := h.lt
  have hb1 : w1.heap[b]? = some (.cells cs.toArray t (0, 0)) := (hg.block b hb (fun e => h.off i e.symm)).trans h.blk
  have hoff : ∀ j, (upd H i h' j).blk ≠ some b := by
    intro j
    by_cases e : j = i
    · subst e; rw [upd_same]; intro hx
      rcases hf with hf | hf | ⟨g, hf, hg'⟩
      · rw [hf] at hx; cases hx
      · exact h.off j (hf ▸ hx)
      · rw [hf] at hx; cases hx; omega
    · rw [upd_other _ _ _ _ e]; exact h.off j
  refine ⟨⟨?_, ?_, ?_, hoff⟩, ⟨hg.os, hg.tape, hg.output, by have := hg.size; simp [World.setCell]; omega, ?_⟩, ?_⟩
  · rw [block_setCell hb1, List.setIfInBounds_toArray]
  · intro j
    have q : Owns w1 (upd H i h' j) (rows' j) := by
      by_cases e : j = i
      · subst e; rw [upd_same]; exact o1
      · rw [upd_other _ _ _ _ e, hrow j e]
        refine (h.own j).moved (fun k hk => hg.block k ((h.own j).lt hk) ?_)
        intro ek
        rcases h.apart j i e with a | a
        · rw [a] at hk; cases hk
        · exact a (hk.trans ek)
    refine q.moved (fun k hk => Below.heap_setCell _ _ _ _ ?_)
    rintro rfl
    exact hoff j hk
  · intro j l hne
    by_cases e : j = i
    · subst e
      rw [upd_same, upd_other _ _ _ _ (fun e => hne e.symm)]
      rcases hf with hf | hf | ⟨g, hf, hg'⟩
      · exact Or.inl hf
      · rw [hf]; exact h.apart j l hne
      · right; rw [hf]; intro ek; have := (h.own l).lt ek.symm; omega
    · rw [upd_other _ _ _ _ e]
      by_cases e2 : l = i
      · subst e2
        rw [upd_same]
        rcases hf with hf | hf | ⟨g, hf, hg'⟩
        · rw [hf]; cases (H j).blk <;> simp
        · rw [hf]; exact h.apart j l hne
        · cases hx : (H j).blk with
          | none => exact Or.inl rfl
          | some k => right; rw [hf]; intro ek; cases ek; have := (h.own j).lt hx; omega
      · rw [upd_other _ _ _ _ e2]; exact h.apart j l hne
  · intro k hk hn
    rw [Below.heap_setCell _ _ _ _ (fun e => hn (Or.inl e))]
    exact hg.block k hk (fun e => hn (Or.inr ⟨i, e.symm⟩))
  · intro k hk
    obtain ⟨j, e⟩ := hk
    by_cases ei : j = i
    · subst ei
      rw [upd_same] at e
      rcases hf with hf | hf | ⟨g, hf, hg'⟩
      · rw [hf] at e; cases e
      · exact Or.inl ⟨j, hf ▸ e⟩
      · rw [hf] at e; cases e; exact Or.inr hg'
    · rw [upd_other _ _ _ _ ei] at e
      exact Or.inl ⟨j, e⟩
theorem BagIs.set {w : World} {b t : Nat} {cs : List Value} {rows : Nat → Row} {H : Nat → Hd} (h : BagIs w b t cs rows H) (c : Nat) (u : Value) :
    BagIs (w.setCell ⟨b, c, none⟩ u) b t (cs.set c u) rows H ∧ Turned b w H (w.setCell ⟨b, c, none⟩ u) H := by
  refine ⟨⟨?_, ?_, h.apart, h.off⟩, (KeptP.refl _ _).setCell (Or.inl (Or.inl rfl)) _, fun _ hk => Or.inl hk⟩
  · rw [block_setCell h.blk, List.setIfInBounds_toArray]
  · intro j
    refine (h.own j).moved (fun k hk => Below.heap_setCell _ _ _ _ ?_)
    rintro rfl
    exact h.off j hk
/-- Behind an append to the slice of slot i. -/
theorem BagIs.app {w w1 : World} {b t : Nat} {cs cs' : List Value} {rows rows' : Nat → Row} {H : Nat → Hd} (h : BagIs w b t cs rows H) (c i g cap' m : Nat) (r : Row)
    (hw1 : Owns w1 ⟨some ⟨g, 0, none⟩, cap'⟩ r) (hr : r = rows' i) (hgr : w.grownBy w1 (H i).blk) (hfresh : (H i).blk = some g ∨ w.heap.size ≤ g)
    (hrow : ∀ j, j ≠ i → rows' j = rows j) (v0 : Value) (hv : cs[c]? = some v0) (hl : cs.set c (.slice (some ⟨g, 0, none⟩) m cap') = cs') :
    w1.cell? ⟨b, c, none⟩ = some v0 ∧ w1.frozen? ⟨b, c, none⟩ = false ∧
    Hid (BagIs (w1.setCell ⟨b, c, none⟩ (.slice (some ⟨g, 0, none⟩) m cap')) b t cs' rows' (upd H i ⟨some ⟨g, 0, none⟩, cap'⟩) ∧
      Turned b w H (w1.setCell ⟨b, c, none⟩ (.slice (some ⟨g, 0, none⟩) m cap')) (upd H i ⟨some ⟨g, 0, none⟩, cap'⟩)) := by
  have hk := (hgr.block b h.lt (fun e => h.off i e.symm)).trans h.blk
  subst hr
  subst hl
  refine ⟨by rw [cell_of hk]; simpa using hv, free_of hk _, ?_⟩
  exact h.put (rows' := rows') c i ⟨some ⟨g, 0, none⟩, cap'⟩ hw1 hgr
    (by rcases hfresh with e | e
        · exact Or.inr (Or.inl e.symm)
        · exact Or.inr (Or.inr ⟨g, rfl, by simpa using e⟩)) hrow _

end Go.Proofs.YtcipkfhpcbddiaaGreat

/- Package report: Rows. -/
namespace Go.Proofs.YtcipkfhpcbddiaaGreat
open Go.RowKit

/-- A report's rows, at a place. -/
structure TellAt (w : World) (b o g : Nat) (L : List Rw) : Prop where
  cell : ∃ arr t, w.heap[b]? = some (.cells arr t (0, 0)) ∧ arr[o + 2]? = some (.slice (some ⟨g, 0, none⟩) L.length L.length)
  arr : w.heap[g]? = some (.cells (rwsV L).toArray 59 (0, 0))
theorem TellAt.still {w w' : World} {b o g : Nat} {L : List Rw} (h : TellAt w b o g L) (k : Kept [] w w') : TellAt w' b o g L := by
  obtain ⟨arr, t, h1, h2⟩ := h.cell
  exact ⟨⟨arr, t, k.get h1 (by simp), h2⟩, k.get h.arr (by simp)⟩
theorem TellAt.at2 {w : World} {b o g : Nat} {L : List Rw} (h : TellAt w b o g L) : w.cell? ⟨b, o + 2, none⟩ = some (.slice (some ⟨g, 0, none⟩) L.length L.length) := by
  obtain ⟨arr, t, h1, h2⟩ := h.cell
  rw [cell_of h1]; exact h2
def isRow (r : Rw) : Bool := !(r.verdict == 0)
def rowsTo (L : List Rw) (k : Nat) : List Rw := (L.take k).filter isRow
theorem rowsTo_len (L : List Rw) (k : Nat) (h : L.length ≤ 10000) : (rowsTo L k).length ≤ 10000 := by
  have h1 := List.length_filter_le isRow (L.take k)
  have h2 : (L.take k).length ≤ L.length := by simp; omega
  unfold rowsTo; omega
theorem rowsTo_yes (L : List Rw) (k : Nat) (hk : k < L.length) (h : (L[k].verdict == 0) = false) : rowsTo L (k + 1) = rowsTo L k ++ [L[k]] := by
  unfold rowsTo; rw [take_snoc L k hk, List.filter_append]; simp [isRow, h]
theorem rowsTo_no (L : List Rw) (k : Nat) (hk : k < L.length) (h : (L[k].verdict == 0) = true) : rowsTo L (k + 1) = rowsTo L k := by
  unfold rowsTo; rw [take_snoc L k hk, List.filter_append]; simp [isRow, h]
theorem rowsTo_end (L : List Rw) : rowsTo L L.length = L.filter isRow := by unfold rowsTo; rw [List.take_length]
theorem rwsV_one (L : List Rw) : ∀ u ∈ rwsV L, u.oneCell' = true := by
  intro u hu
  unfold rwsV at hu
  rw [List.mem_flatMap] at hu
  obtain ⟨r, _, hr⟩ := hu
  exact rwV_one r u hr

set_option maxHeartbeats 2000000 in
set_option maxRecDepth 100000 in
theorem rrows_any (b o g : Nat) (L : List Rw) (w : World) (h : TellAt w b o g L) (hL : L.length ≤ 10000) :
    Calls Tryz.prog 40 #[.pointer (some ⟨b, o, none⟩)] w fun e w' => ∃ ob : Option Nat, e = .returned (rowsSl ob (L.filter isRow).length) ∧ RowsAt w' ob (L.filter isRow) ∧ (∀ x, ob = some x → w.heap.size ≤ x) ∧ Kept [] w w' := by
  obtain ⟨i0, hi, hz0, hz1, hz2⟩ := info_parts infoR
  go_enter Tryz.func40, Tryz.ntmps40
  go_wp2
  go_loopg [3, 4] L.length (fun gk sv i wr => ∃ (k : Nat) (hd : Hd), k ≤ L.length ∧ gk = L.length - k ∧ i = .int .i64 k ∧ sv = .slice hd.ao (rowsTo L k).length hd.cap ∧ Owns wr hd (rowR (rowsTo L k)) ∧ (∀ x, hd.blk = some x → w.heap.size ≤ x) ∧ Kept [] w wr)
  case atStart => exact ⟨0, ⟨none, 0⟩, by omega, by omega, rfl, rfl, World.ownsRow_nil _ _ _ _, by intro x hx; simp [Hd.blk] at hx, Kept.refl _ _⟩
  case round =>
    obtain ⟨k, hd, hk, hg, rfl, rfl, hO, hN, hK⟩ := hrel
    have hT := h.still hK
    have c2 := hT.at2
    have hal := rowsTo_len L k hL
    by_cases hlt : k < L.length
    · obtain ⟨a0, a1, a2, a3, a4, a5⟩ := rw_at hT.arr (fun j v hj => by simpa using hj) k hlt
      have HY := (show Hid _ from rowsTo_yes L k hlt)
      have HN0 := (show Hid _ from rowsTo_no L k hlt)
      have hki : (k : Int) < L.length := by omega
      generalize L[k] = r at *
      cases hv : (r.verdict == 0)
      · have hv' : (r.verdict != 0) = true := by simp [bne, hv]
        have HT := (show Hid _ from HY.out hv)
        have hO4 := hO.moved (fun x hx => ((Kept.refl [] wr).alloc (.cells #[.string r.label, .int .i64 r.verdict, .int .i64 r.why, .string r.at_.file, .int .i64 r.at_.line, .int .i64 r.at_.col] 59)).block x (hO.lt hx) (by simp))
        clear HY HN0
        go_upto_region 6 with fail
        go_wp2_with (at_builtin; refine wpList_append_row _ rfl (.tmp 24) (.tmp 32) 44 rfl i0 (.agg #[.string ⟨#[]⟩, .int .i64 0, .int .i64 0, .string ⟨#[]⟩, .int .i64 0, .int .i64 0]) 64 hd (rowR (rowsTo L k)) Tryz.underlying44 hi hz0 hz1 hz2 rfl (Nat.succ_pos 5) rfl (by exact hO4) ⟨_, 0, none⟩ 1 1 (rwV r) rfl rfl ?d1 ?d2 Nat.one_pos ?d3 ?d4 ?_)
        case d1 =>
          intro j u hj
          match j, hj with
          | 0, hj => simp [rwV] at hj; subst hj; simp [Addr.add]
          | 1, hj => simp [rwV] at hj; subst hj; simp [Addr.add]
          | 2, hj => simp [rwV] at hj; subst hj; simp [Addr.add]
          | 3, hj => simp [rwV] at hj; subst hj; simp [Addr.add]
          | 4, hj => simp [rwV] at hj; subst hj; simp [Addr.add]
          | 5, hj => simp [rwV] at hj; subst hj; simp [Addr.add]
          | j + 6, hj => simp [rwV] at hj
        case d2 => exact rwV_one r
        case d3 => simp only [rowR]; unfold maxLen; omega
        case d4 => simp only [rowR]; omega
        intro g5 cap5 w5 hw5 hgr5 hfresh5
        rw [rowR_snoc (rowsTo L k) r, ← HT.out] at hw5
        have hK4 := hK.alloc (.cells #[.string r.label, .int .i64 r.verdict, .int .i64 r.why, .string r.at_.file, .int .i64 r.at_.line, .int .i64 r.at_.col] 59)
        have hK5 := hK4.grown hgr5 hN
        have hg5 : w.heap.size ≤ g5 := by
          rcases hfresh5 with e | e
          · exact hN g5 e
          · have := hK4.size; simp at e this; omega
        have hEl : Hid ((rowR (rowsTo L k)).n + 1 = (rowsTo L (k + 1)).length) := by show _ = _; rw [HT.out]; simp [rowR]
        rw [hEl.out]
        clear hgr5 hfresh5 hO4
        go_wp2
        go_roundg (L.length - (k + 1))
        case measure => omega
        case rel => exact ⟨k + 1, ⟨some ⟨g5, 0, none⟩, cap5⟩, by omega, rfl, by go_num, rfl, hw5, by intro x hx; simp [Hd.blk] at hx; omega, hK5⟩
      · have hv' : (r.verdict != 0) = false := by simp [bne, hv]
        have HT := (show Hid _ from HN0.out hv)
        clear HY HN0
        go_wp2
        go_roundg (L.length - (k + 1))
        case measure => omega
        case rel => exact ⟨k + 1, hd, by omega, rfl, by go_num, by rw [HT.out], by rw [HT.out]; exact hO, hN, hK⟩
    · have e : k = L.length := by omega
      subst e
      obtain ⟨M, HM⟩ : ∃ M, Hid (L.filter isRow = M) := ⟨_, rfl⟩
      rw [rowsTo_end, HM.out] at hal hO ⊢
      by_cases hm : M.length = 0
      · have hmi : ((M.length : Int) == 0) = true := by simp [hm]
        have hM : M = [] := List.eq_nil_of_length_eq_zero hm
        go_wp2
        go_ret
        rw [HM.out]
        exact ⟨none, rfl, hM, by simp, hK⟩
      · have hmi : ((M.length : Int) == 0) = false := by rw [beq_eq_false_iff_ne]; omega
        have m1 := fun w => run_make_row (P := Tryz.prog) w 44 59 i0 _ Tryz.underlying44 hi hz0 M.length 6 hz1 (by rw [hz2]; omega) (by omega)
        obtain ⟨mc1, hmc1⟩ : ∃ mc, mc = madeCells (Value.agg #[.string ⟨#[]⟩, .int .i64 0, .int .i64 0, .string ⟨#[]⟩, .int .i64 0, .int .i64 0]).cells (M.length * 6) := ⟨_, rfl⟩
        have z1 : mc1.size = M.length * 6 := by rw [hmc1, size_madeCells]
        rw [← hmc1] at m1
        clear hmc1
        have K2 : Kept [] wr (wr.alloc (.cells mc1 59)) := (Kept.refl [] _).alloc _
        have Hsz1 : Hid ((Tryz.prog.info? (rowR M).e).map (·.size) = some (rowR M).size) := by show _ = _; simp [rowR, hi, hz1]
        obtain ⟨w3, cp1, hg3, hk3, hz3⟩ := copy_full (P := Tryz.prog) (wr.alloc (.cells mc1 59)) 44 44 3 wr.heap.size M.length hd (rowR M) mc1 59 Tryz.underlying44 Hsz1.out (heap_alloc_new _ _) (hO.moved (fun x hx => K2.block x (hO.lt hx) (by simp))) z1 (rwsV_one _)
        simp only [rowR] at cp1 hg3
        have K3 : Kept [] wr w3 := ((K2.mono (S' := [wr.heap.size]) (by simp)).trans hk3).mono (by simp)
        have hs := hK.size
        clear hk3 hz3 K2
        go_wp2
        go_ret
        rw [HM.out]
        exact ⟨some wr.heap.size, rfl, ⟨by omega, hg3⟩, fun x hx => by cases hx; exact hs, hK.trans K3⟩

/-- Without a report there are no rows. -/
theorem rrows_nil (b o : Nat) (w : World) (h : w.cell? ⟨b, o + 2, none⟩ = some (.slice none 0 0)) :
    Calls Tryz.prog 40 #[.pointer (some ⟨b, o, none⟩)] w fun e w' => e = .returned (.slice none 0 0) ∧ w' = w := by
  go_enter Tryz.func40, Tryz.ntmps40
  go_wp2
  refine wp_loop_rounds 1 ?_
  rw [rounds_succ]
  go_wp2
  go_ret
  exact ⟨rfl, rfl⟩

end Go.Proofs.YtcipkfhpcbddiaaGreat

/- Package proofs: a compressed proof as far as it was read. -/
namespace Go.Proofs.YtcipkfhpcbddiaaGreat
open Go.RowKit

structure Stp where
  kind : Int
  number : Nat
  at_ : Pl
def stepV (s : Stp) : List Value := [.int .i64 s.kind, .int .i64 s.number, .string s.at_.file, .int .i64 s.at_.line, .int .i64 s.at_.col]
def stepsV (l : List Stp) : List Value := l.flatMap stepV
def rowP (l : List Stp) : Row := ⟨147, 5, l.length, stepsV l⟩
theorem rowP_snoc (l : List Stp) (s : Stp) : (⟨(rowP l).e, (rowP l).size, (rowP l).n + 1, (rowP l).xs ++ stepV s⟩ : Row) = rowP (l ++ [s]) := by simp [rowP, stepsV]
theorem stepV_one (s : Stp) : ∀ u ∈ stepV s, u.oneCell' = true := by
  intro u hu
  simp only [stepV, List.mem_cons, List.not_mem_nil, or_false] at hu
  rcases hu with rfl | rfl | rfl | rfl | rfl <;> rfl
theorem infoP : (Tryz.prog.info? 147).map (fun i => (i.zero, i.size, i.bytes)) = some (some (.agg #[.int .i64 0, .int .i64 0, .string ⟨#[]⟩, .int .i64 0, .int .i64 0]), 5, 48) := by kernel_rfl

structure Cmp where
  names : List Nat
  tagged : List Nat
  steps : List Stp
  digits : Nat
  behind : Bool
def rowC (c : Cmp) : Nat → Row
  | 0 => rowN c.names
  | 1 => rowN c.tagged
  | 2 => rowP c.steps
  | _ + 3 => rowN []
def cmpList (c : Cmp) (H : Nat → Hd) : List Value :=
  [.slice (H 0).ao c.names.length (H 0).cap, .slice (H 1).ao c.tagged.length (H 1).cap, .slice (H 2).ao c.steps.length (H 2).cap, .int .i64 c.digits, .bool c.behind]
def CmpIs (w : World) (b : Nat) (c : Cmp) (H : Nat → Hd) : Prop := BagIs w b 171 (cmpList c H) (rowC c) H
theorem CmpIs.cells {w : World} {b : Nat} {c : Cmp} {H : Nat → Hd} (h : CmpIs w b c H) :
    w.cell? ⟨b, 0, none⟩ = some (.slice (H 0).ao c.names.length (H 0).cap) ∧ w.cell? ⟨b, 1, none⟩ = some (.slice (H 1).ao c.tagged.length (H 1).cap) ∧ w.cell? ⟨b, 2, none⟩ = some (.slice (H 2).ao c.steps.length (H 2).cap) ∧
    w.cell? ⟨b, 3, none⟩ = some (.int .i64 c.digits) ∧ w.cell? ⟨b, 4, none⟩ = some (.bool c.behind) :=
  ⟨BagIs.cell h 0, BagIs.cell h 1, BagIs.cell h 2, BagIs.cell h 3, BagIs.cell h 4⟩

/-- How long things are. -/
structure CmpOk (c : Cmp) (N : Nat) : Prop where
  names : c.names.length ≤ N
  tagged : c.tagged.length ≤ N
  steps : c.steps.length ≤ N
  digits : c.digits ≤ 10 * N + 5
  behind : c.behind = true → 0 < c.steps.length

def addStepF (c : Cmp) (s : Stp) : Cmp := { c with steps := c.steps ++ [s], behind := false }

set_option maxHeartbeats 1600000 in
set_option maxRecDepth 100000 in
theorem addStep_any (b : Nat) (c : Cmp) (H : Nat → Hd) (k : Int) (n : Nat) (f : ByteArray) (l co : Int) (w : World) (h : CmpIs w b c H) (ok : CmpOk c 10000000) :
    Calls Tryz.prog 139 #[.pointer (some ⟨b, 0, none⟩), .agg #[.int .i64 k, .int .i64 n, .string f, .int .i64 l, .int .i64 co]] w fun e w' => e = .returned (.tuple #[]) ∧ ∃ H', CmpIs w' b (addStepF c ⟨k, n, ⟨f, l, co⟩⟩) H' ∧ Turned b w H w' H' ∧ ∀ j, j ≠ 2 → H' j = H j := by
  obtain ⟨i0, hi, hz0, hz1, hz2⟩ := info_parts infoP
  have hsl := ok.steps
  obtain ⟨W, hW⟩ : ∃ W, W = w.alloc (.cells #[.int .i64 k, .int .i64 n, .string f, .int .i64 l, .int .i64 co] 147) := ⟨_, rfl⟩
  have K : Kept [] w W := by rw [hW]; exact (Kept.refl [] _).alloc _
  have hC : CmpIs W b c H := BagIs.still h K
  have B : W.heap[w.heap.size]? = some (.cells #[.int .i64 k, .int .i64 n, .string f, .int .i64 l, .int .i64 co] 147 (0, 0)) := by rw [hW]; exact heap_alloc_new _ _
  have y0 : W.cell? ⟨w.heap.size, 0, none⟩ = some (.int .i64 k) := by rw [cell_of B]; rfl
  have y1 : W.cell? ⟨w.heap.size, 1, none⟩ = some (.int .i64 n) := by rw [cell_of B]; rfl
  have y2 : W.cell? ⟨w.heap.size, 2, none⟩ = some (.string f) := by rw [cell_of B]; rfl
  have y3 : W.cell? ⟨w.heap.size, 3, none⟩ = some (.int .i64 l) := by rw [cell_of B]; rfl
  have y4 : W.cell? ⟨w.heap.size, 4, none⟩ = some (.int .i64 co) := by rw [cell_of B]; rfl
  obtain ⟨c0, c1, c2, c3, c4⟩ := hC.cells
  clear c0 c1 c3
  have hfr := BagIs.free hC
  have hbW := BagIs.lt hC
  have hwW := lt_of_get B
  have hD : Hid (CmpIs (W.alloc (.cells #[.int .i64 k, .int .i64 n, .string f, .int .i64 l, .int .i64 co] 147)).drew b c H) := BagIs.still hC ((Kept.refl [] W).alloc _).drew
  have s2 : Hid (∀ j u, (stepV ⟨k, n, ⟨f, l, co⟩⟩)[j]? = some u → (W.alloc (.cells #[.int .i64 k, .int .i64 n, .string f, .int .i64 l, .int .i64 co] 147)).drew.cell? ((⟨W.heap.size, 0, none⟩ : Addr).add j) = some u) := by
    intro j u hj
    have hk : (W.alloc (.cells #[.int .i64 k, .int .i64 n, .string f, .int .i64 l, .int .i64 co] 147)).drew.heap[W.heap.size]? = some (.cells #[.int .i64 k, .int .i64 n, .string f, .int .i64 l, .int .i64 co] 147 (0, 0)) := heap_alloc_new _ _
    rw [addr_add, cell_of hk]; simpa [stepV] using hj
  have s4 : Hid ((rowP c.steps).n + 1 ≤ maxLen) := by show _ ≤ _; simp only [rowP]; unfold maxLen; omega
  have s5 : Hid (((rowP c.steps).n + 1) * 48 ≤ 140737488355328) := by show _ ≤ _; simp only [rowP]; omega
  have HW := (show Hid _ from hW.symm)
  have hrw : Hid (∀ j, j ≠ 2 → rowC { c with steps := c.steps ++ [⟨k, n, ⟨f, l, co⟩⟩] } j = rowC c j) := by
    intro j hj
    match j, hj with
    | 0, _ => rfl
    | 1, _ => rfl
    | 2, hj => exact absurd rfl hj
    | m + 3, _ => rfl
  clear hW B h
  go_enter Tryz.func139, Tryz.ntmps139
  go_upto_region 1 with fail
  rw [HW.out]
  go_region_law (refine step_append_row rfl (.tmp 8) (.tmp 10) 139 rfl i0 (.agg #[.int .i64 0, .int .i64 0, .string ⟨#[]⟩, .int .i64 0, .int .i64 0]) 48 (H 2) (rowP c.steps) Tryz.underlying139 hi hz0 hz1 hz2 rfl (Nat.succ_pos 4) (by simp [Act.eval] <;> rfl) (BagIs.own hD.out 2) ⟨W.heap.size, 0, none⟩ 1 1 (stepV ⟨k, n, ⟨f, l, co⟩⟩) (by simp [Act.eval]) rfl s2.out (stepV_one _) Nat.one_pos s4.out s5.out ?_; intro g cap' w1 hw1 hgr hfresh; obtain ⟨k5, f5, HP⟩ := BagIs.app hD.out (cs' := cmpList { c with steps := c.steps ++ [⟨k, n, ⟨f, l, co⟩⟩] } (upd H 2 ⟨some ⟨g, 0, none⟩, cap'⟩)) (rows' := rowC { c with steps := c.steps ++ [⟨k, n, ⟨f, l, co⟩⟩] }) 2 2 g cap' ((rowP c.steps).n + 1) _ hw1 (rowP_snoc c.steps ⟨k, n, ⟨f, l, co⟩⟩) hgr (by simpa using hfresh) hrw.out (.slice (H 2).ao c.steps.length (H 2).cap) rfl (by simp [cmpList, upd, rowP]); clear hw1 hgr hfresh)
  all_goals
    have D2 := (show Hid _ from BagIs.set HP.out.1 4 (.bool false))
    have hb4 := (BagIs.cell HP.out.1 4)
    have hf4 := BagIs.free HP.out.1
    simp only [cmpList, List.getElem?_cons_succ, List.getElem?_cons_zero] at hb4
    clear c2 c4 hfr y0 y1 y2 y3 y4 k5 f5
    go_wp2
    go_end0
    exact ⟨rfl, _, D2.out.1, ((HP.out.2.first ((Kept.refl [] _).alloc _).drew).first K).trans D2.out.2, fun j hj => upd_other _ _ _ _ hj⟩

end Go.Proofs.YtcipkfhpcbddiaaGreat
