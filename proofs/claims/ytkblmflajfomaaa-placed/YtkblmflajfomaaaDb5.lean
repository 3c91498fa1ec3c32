/- Package statements: blocks begin and end. -/
import Derived.Test.YtkblmflajfomaaaDb4
import Derived.Deep.RegionLaw
namespace Go.Proofs.Ytkblmflajfomaaa
open Go.RowKit

/-- APPEND onto an owned slice, as a run. -/
theorem run_append_row {P : Program} (w : World) (t ty : TypeId) (i : TypeInfo) (z : Value) (bytes : Nat) (h : Hd) (r : Row) (h1 : P.underlying t = some (.slice r.e)) (h2 : P.info? r.e = some i) (h3 : i.zero = some z) (h4 : i.size = r.size) (h5 : i.bytes = bytes) (h6 : z.cells.size = r.size) (h7 : 0 < r.size)
    (hown : Owns w h r) (ad : Addr) (m c : Nat) (news : List Value) (hn : news.length = m * r.size) (hc : ∀ j u, news[j]? = some u → w.cell? (ad.add j) = some u) (h1c : ∀ u ∈ news, u.oneCell' = true)
    (hm : 0 < m) (b1 : r.n + m ≤ maxLen) (b2 : (r.n + m) * bytes ≤ 140737488355328) :
    ∃ g cap' w', (Builtin.append_ #[t, t] ty #[.slice h.ao r.n h.cap, .slice (some ad) m c]).run P w = .ok (.slice (some ⟨g, 0, none⟩) (r.n + m) cap') w' ∧
      Owns w' ⟨some ⟨g, 0, none⟩, cap'⟩ ⟨r.e, r.size, r.n + m, r.xs ++ news⟩ ∧ w.grownBy w' h.blk ∧ (h.blk = some g ∨ w.heap.size ≤ g) := by
  rcases hown.ways with ⟨e1, e2, e3⟩ | ⟨g, cur, e1, e2, e3, e4, e5, e6⟩
  · obtain ⟨v', w', hrun, hw, hgr, _⟩ := run_append_own (P := P) w w.heap.size t ty r.e i z r.size bytes h1 h2 h3 h4 h5 h6 h7 (.slice none 0 0) 0 [] (World.ownsRow_nil w _ r.e r.size) ad m c news hn hc h1c (by omega) (by rw [e2] at b2; exact b2) (Nat.le_refl _)
    rcases hw.2 with ⟨_, q⟩ | ⟨g, cap', cur, q1, q2, q3, q4, q5, q6, q7⟩
    · omega
    · refine ⟨g, cap', w', ?_, ⟨by have := hw.1; simpa [e3, e2] using this, Or.inr ⟨g, cap', cur, by simp, Nat.zero_le _, q3, by simpa [e2] using q4, q5, q6, by simpa [e2, e3] using q7⟩⟩, ?_, Or.inr q2⟩
      · rw [e1, e2, hrun, q1]
      · rw [e1]; exact hgr
  · by_cases hf : r.n + m ≤ h.cap
    · obtain ⟨w', hrun, hw, hgr⟩ := run_append_fits (P := P) w 0 t ty r.e i r.size h1 h2 h4 g r.n h.cap r.xs (by have := hown; unfold Owns at this; rw [e1] at this; exact this) ad m c news hn hc h1c hf
      exact ⟨g, h.cap, w', by rw [e1, hrun], hw, by unfold Hd.blk; rw [e1]; exact hgr, Or.inl (by unfold Hd.blk; rw [e1]; rfl)⟩
    · obtain ⟨v', w', hrun, hw, hgr⟩ := run_append_arg_grows (P := P) w t ty r.e i z r.size bytes h1 h2 h3 h4 h5 h6 h7 ⟨g, 0, none⟩ r.n h.cap r.xs hown.1 (by intro j u hj; rw [addr_add]; exact hown.cell e1 j u hj) ad m c news hn hc (by omega) b1 b2
      rcases hw.2 with ⟨_, q⟩ | ⟨g', cap', cur', q1, q2, q3, q4, q5, q6, q7⟩
      · omega
      · exact ⟨g', cap', w', by rw [e1, hrun, q1], ⟨hw.1, Or.inr ⟨g', cap', cur', rfl, Nat.zero_le _, q3, q4, q5, q6, q7⟩⟩, ⟨hgr.os, hgr.tape, hgr.output, hgr.size, fun k hk _ => hgr.block k hk (by simp)⟩, Or.inr q2⟩

theorem step_append_row {P : Program} {ops : Array Oper} {o : Oper} {a : Act} {w : World} {K : Act → World → Prop} {Q : Exit → Act → World → Prop} {E : Prop}
    (hg : o.guard = none) (s x : Operand) (t : TypeId) (hop : o.op = Op.call { callee := Callee.builtin Builtin.append, args := #[s, x], argTypes := #[t, t] })
    (i : TypeInfo) (z : Value) (bytes : Nat) (h : Hd) (r : Row) (h1 : P.underlying t = some (.slice r.e)) (h2 : P.info? r.e = some i) (h3 : i.zero = some z) (h4 : i.size = r.size) (h5 : i.bytes = bytes) (h6 : z.cells.size = r.size) (h7 : 0 < r.size)
    (hs : a.eval s = .slice h.ao r.n h.cap) (hown : Owns w h r)
    (ad : Addr) (m c : Nat) (news : List Value) (hx : a.eval x = .slice (some ad) m c) (hn : news.length = m * r.size) (hc : ∀ j u, news[j]? = some u → w.cell? (ad.add j) = some u) (h1c : ∀ u ∈ news, u.oneCell' = true)
    (hm : 0 < m) (b1 : r.n + m ≤ maxLen) (b2 : (r.n + m) * bytes ≤ 140737488355328)
    (hK : ∀ g cap' w', Owns w' ⟨some ⟨g, 0, none⟩, cap'⟩ ⟨r.e, r.size, r.n + m, r.xs ++ news⟩ → w.grownBy w' h.blk → (h.blk = some g ∨ w.heap.size ≤ g) → K (a.put o.dst (.slice (some ⟨g, 0, none⟩) (r.n + m) cap')) w') :
    if Region.wanted o (yielded ops a.tmps) = true then Oper.wp P o a w K Q else E := by
  have hw : Region.wanted o (yielded ops a.tmps) = true := by simp [Region.wanted, hg]
  rw [if_pos hw]
  obtain ⟨g, cap', w', hrun, r1, r2, r3⟩ := run_append_row (P := P) w t o.type i z bytes h r h1 h2 h3 h4 h5 h6 h7 hown ad m c news hn hc h1c hm b1 b2
  unfold Oper.wp
  simp [execOp, hop, resolve, invoke, builtin, hs, hx, hrun, Result.andThen]
  exact hK g cap' w' r1 r2 r3

theorem infoB : (Try.prog.info? 102).map (fun i => (i.zero, i.size, i.bytes)) = some (some (.agg #[.int .i64 0, .int .i64 0]), 2, 16) := by kernel_rfl
theorem pairs_snoc (l : List (Nat × Nat)) (x : Nat × Nat) : pairs (l ++ [x]) = pairs l ++ [.int .i64 x.1, .int .i64 x.2] := by simp [pairs]
theorem rowB_snoc (l : List (Nat × Nat)) (x : Nat × Nat) : (⟨(rowB l).e, (rowB l).size, (rowB l).n + 1, (rowB l).xs ++ [.int .i64 x.1, .int .i64 x.2]⟩ : Row) = rowB (l ++ [x]) := by
  simp [rowB, pairs_snoc]

theorem begin_after {w w1 : World} {b t o : Nat} {pre post : List Value} {d : Db} {H : Nat → Hd} (h : DbIs w b t pre post d H) (ho : pre.length = o) (g cap' : Nat) (x : Nat × Nat)
    (hw1 : Owns w1 ⟨some ⟨g, 0, none⟩, cap'⟩ ⟨(rowB d.blocks).e, (rowB d.blocks).size, (rowB d.blocks).n + 1, (rowB d.blocks).xs ++ [.int .i64 x.1, .int .i64 x.2]⟩) (hgr : w.grownBy w1 (H 5).blk) (hfresh : (H 5).blk = some g ∨ w.heap.size ≤ g) :
    w1.cell? ⟨b, o + 5, none⟩ = some (.slice (H 5).ao d.blocks.length (H 5).cap) ∧ w1.frozen? ⟨b, o + 5, none⟩ = false ∧
    Hid (DbIs (w1.setCell ⟨b, o + 5, none⟩ (.slice (some ⟨g, 0, none⟩) ((rowB d.blocks).n + 1) cap')) b t pre post { d with blocks := d.blocks ++ [x] } (upd H 5 ⟨some ⟨g, 0, none⟩, cap'⟩) ∧
      Turned b w H (w1.setCell ⟨b, o + 5, none⟩ (.slice (some ⟨g, 0, none⟩) ((rowB d.blocks).n + 1) cap')) (upd H 5 ⟨some ⟨g, 0, none⟩, cap'⟩)) := by
  have hk := (hgr.block b h.lt (fun e => h.off 5 (by omega) e.symm)).trans h.blk
  refine ⟨(cell_of hk (o + 5)).trans (mid_get pre (dbList d H) post o 5 ho (by simp [dbList])), free_of hk _, ?_⟩
  exact h.put (d' := { d with blocks := d.blocks ++ [x] }) o 5 ho 5 (by omega) ⟨some ⟨g, 0, none⟩, cap'⟩ (by rw [rowB_snoc] at hw1; exact hw1) hgr
    (by rcases hfresh with e | e
        · exact Or.inr (Or.inl e.symm)
        · exact Or.inr (Or.inr ⟨g, rfl, by simpa using e⟩))
    (by intro j hj hne; match j, hj with | 0, _ => first | rfl | omega
                                           | 1, _ => first | rfl | omega
                                           | 2, _ => first | rfl | omega
                                           | 3, _ => first | rfl | omega
                                           | 4, _ => first | rfl | omega
                                           | 5, _ => first | rfl | omega
                                           | 6, _ => first | rfl | omega)
    _ (by omega) (by simp [dbList, upd, rowB])

set_option maxHeartbeats 800000 in
set_option maxRecDepth 100000 in
theorem beginBlock_any (b t o : Nat) (pre post : List Value) (d : Db) (H : Nat → Hd) (w : World) (h : DbIs w b t pre post d H) (ho : pre.length = o) (hl : d.blocks.length ≤ 1073741824) :
    Calls Try.prog 55 #[.pointer (some ⟨b, o, none⟩)] w fun e w' => e = .returned (.tuple #[]) ∧ ∃ H', DbIs w' b t pre post { d with blocks := d.blocks ++ [(d.active.length, d.typed.length)] } H' ∧ Turned b w H w' H' := by
  obtain ⟨i0, hi, hz0, hz1, hz2⟩ := info_parts infoB
  obtain ⟨q0, q1, q2, q3, q4, q5, q6, q7, q8⟩ := h.cells o ho
  have hfr := h.free
  have hbw := h.lt
  have hD : Hid (DbIs (w.alloc (.cells #[.int .i64 d.active.length, .int .i64 d.typed.length] 102)).drew b t pre post d H) := h.still ((Kept.refl [] w).alloc _).drew
  have s2 : Hid (∀ j u, ([.int .i64 d.active.length, .int .i64 d.typed.length] : List Value)[j]? = some u → (w.alloc (.cells #[.int .i64 d.active.length, .int .i64 d.typed.length] 102)).drew.cell? ((⟨w.heap.size, 0, none⟩ : Addr).add j) = some u) := by
    intro j u hj
    rw [addr_add]
    have hk : (w.alloc (.cells #[.int .i64 d.active.length, .int .i64 d.typed.length] 102)).drew.heap[w.heap.size]? = some (.cells #[.int .i64 d.active.length, .int .i64 d.typed.length] 102 (0, 0)) := heap_alloc_new _ _
    rw [cell_of hk]; simpa using hj
  have s3 : Hid (∀ u ∈ ([.int .i64 d.active.length, .int .i64 d.typed.length] : List Value), u.oneCell' = true) := by
    intro u hu
    simp at hu
    rcases hu with rfl | rfl <;> rfl
  have s4 : Hid ((rowB d.blocks).n + 1 ≤ maxLen) := by show _ ≤ _; simp only [rowB]; unfold maxLen; omega
  have s5 : Hid (((rowB d.blocks).n + 1) * 16 ≤ 140737488355328) := by show _ ≤ _; simp only [rowB]; omega
  clear h
  go_enter Try.func55, Try.ntmps55
  go_wp2_with fail
  go_region_law (refine step_append_row rfl (.tmp 6) (.tmp 18) 73 rfl i0 (.agg #[.int .i64 0, .int .i64 0]) 16 (H 5) (rowB d.blocks) Try.underlying73 hi hz0 hz1 hz2 rfl Nat.two_pos (by simp [Act.eval]; rfl) (hD.out.own 5 (by omega)) ⟨w.heap.size, 0, none⟩ 1 1 [.int .i64 d.active.length, .int .i64 d.typed.length] (by simp [Act.eval]) rfl s2.out s3.out Nat.one_pos s4.out s5.out ?_; intro g cap' w1 hw1 hgr hfresh; obtain ⟨k5, f5, HP⟩ := begin_after hD.out ho g cap' (d.active.length, d.typed.length) hw1 hgr hfresh; clear hw1 hgr hfresh)
  all_goals go_wp2
  all_goals go_end0
  all_goals exact ⟨rfl, _, HP.out.1, HP.out.2.first ((Kept.refl [] w).alloc _).drew⟩

end Go.Proofs.Ytkblmflajfomaaa
