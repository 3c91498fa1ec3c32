/- Package statements: a block ends. -/
import Derived.Test.YtkblmflajfomaaaDb5
namespace Go.Proofs.Ytkblmflajfomaaa
open Go.RowKit

theorem pairs_length (l : List (Nat × Nat)) : (pairs l).length = l.length * 2 := by
  induction l with
  | nil => rfl
  | cons a r ih => simp only [pairs, List.flatMap_cons, List.length_append, List.length_cons, List.length_nil] at *; omega
theorem pairs_last (l : List (Nat × Nat)) (x : Nat × Nat) : (pairs (l ++ [x]))[l.length * 2]? = some (.int .i64 x.1) ∧ (pairs (l ++ [x]))[l.length * 2 + 1]? = some (.int .i64 x.2) := by
  rw [pairs_snoc]
  have := pairs_length l
  constructor
  · rw [List.getElem?_append_right (by omega), this]; simp
  · rw [List.getElem?_append_right (by omega), this]; simp

theorem Owns.pop {w : World} {h : Hd} {l : List (Nat × Nat)} {x : Nat × Nat} (o : Owns w h (rowB (l ++ [x]))) : Owns w h (rowB l) := by
  rcases o.ways with ⟨e0, h0, _⟩ | ⟨g, cur, e1, e2, e3, e4, e5, e6⟩
  · have h0' : (l ++ [x]).length = 0 := h0
    simp at h0'
  · obtain ⟨ao, cap⟩ := h
    simp only at e1 e3 e4 e5
    subst e1
    have e3' : (l ++ [x]).length ≤ cap := e3
    simp at e3'
    refine ⟨by simp only [rowB]; exact pairs_length l, Or.inr ⟨g, cap, cur, rfl, Nat.zero_le _, e2, ?_, e4, e5, ?_⟩⟩
    · simp only [rowB]; omega
    · have e6' : cur.toList.take ((l ++ [x]).length * 2) = pairs (l ++ [x]) := e6
      simp only [rowB]
      have e7 : pairs l = (pairs (l ++ [x])).take (l.length * 2) := by rw [pairs_snoc, List.take_left' (pairs_length l)]
      rw [e7, ← e6', List.take_take]
      congr 1
      simp

theorem rows_active (d : Db) (l : List ByteArray) : ∀ j, j < 7 → j ≠ 3 → rowsOf { d with active := l } j = rowsOf d j := by
  intro j hj hne
  match j, hj with
  | 0, _ => first | rfl | omega
  | 1, _ => first | rfl | omega
  | 2, _ => first | rfl | omega
  | 3, _ => first | rfl | omega
  | 4, _ => first | rfl | omega
  | 5, _ => first | rfl | omega
  | 6, _ => first | rfl | omega
theorem rows_typed (d : Db) (l : List ByteArray) : ∀ j, j < 7 → j ≠ 4 → rowsOf { d with typed := l } j = rowsOf d j := by
  intro j hj hne
  match j, hj with
  | 0, _ => first | rfl | omega
  | 1, _ => first | rfl | omega
  | 2, _ => first | rfl | omega
  | 3, _ => first | rfl | omega
  | 4, _ => first | rfl | omega
  | 5, _ => first | rfl | omega
  | 6, _ => first | rfl | omega
theorem rows_blocks (d : Db) (l : List (Nat × Nat)) : ∀ j, j < 7 → j ≠ 5 → rowsOf { d with blocks := l } j = rowsOf d j := by
  intro j hj hne
  match j, hj with
  | 0, _ => first | rfl | omega
  | 1, _ => first | rfl | omega
  | 2, _ => first | rfl | omega
  | 3, _ => first | rfl | omega
  | 4, _ => first | rfl | omega
  | 5, _ => first | rfl | omega
  | 6, _ => first | rfl | omega
theorem rows_symbols (d : Db) (l : List ByteArray) : ∀ j, j < 7 → j ≠ 6 → rowsOf { d with symbols := l } j = rowsOf d j := by
  intro j hj hne
  match j, hj with
  | 0, _ => first | rfl | omega
  | 1, _ => first | rfl | omega
  | 2, _ => first | rfl | omega
  | 3, _ => first | rfl | omega
  | 4, _ => first | rfl | omega
  | 5, _ => first | rfl | omega
  | 6, _ => first | rfl | omega

def endBlockF (d : Db) (bl : List (Nat × Nat)) (x : Nat × Nat) : Db := { d with blocks := bl, active := d.active.take x.1, typed := d.typed.take x.2 }

theorem take_len (l : List ByteArray) (c : Nat) : (l.take c).length = if c ≤ l.length then c else l.length := by
  rw [List.length_take]; split <;> omega
theorem Owns.taken {w : World} {h : Hd} {l : List ByteArray} (o : Owns w h (rowS l)) (c : Nat) : Owns w h (rowS (l.take c)) := by
  by_cases hc : c ≤ l.length
  · exact o.cut c hc
  · rw [List.take_of_length_le (by omega)]; exact o

theorem firstm_any (hd : Hd) (l : List ByteArray) (c m : Nat) (w : World) (hm : Hid ((l.take c).length = m)) (ho : Owns w hd (rowS l)) (hc : c ≤ 1073741824) :
    Calls Try.prog 67 #[.slice hd.ao l.length hd.cap, .int .i64 c] w fun e w' => e = .returned (.slice hd.ao m hd.cap) ∧ w' = w := by
  have e : m = if c ≤ l.length then c else l.length := by rw [← hm.out, take_len]
  rw [e]
  exact first_any hd l c w ho hc

theorem end_after (i cell : Nat) {w : World} {b t o : Nat} {pre post : List Value} {d d' : Db} {H : Nat → Hd} (h : DbIs w b t pre post d H) (ho : pre.length = o) (hi : i < 7) (ow : Owns w (H i) (rowsOf d' i))
    (hrow : ∀ j, j < 7 → j ≠ i → rowsOf d' j = rowsOf d j) (u : Value) (hc : cell < 9) (hl : (dbList d H).set cell u = dbList d' (upd H i (H i))) :
    DbIs (w.setCell ⟨b, o + cell, none⟩ u) b t pre post d' H ∧ Turned b w H (w.setCell ⟨b, o + cell, none⟩ u) H := by
  have hu : upd H i (H i) = H := by funext j; unfold upd; split <;> simp_all
  have := h.put (d' := d') o cell ho i hi (H i) ow (World.grownBy.refl _ _) (Or.inr (Or.inl rfl)) hrow u hc hl
  rw [hu] at this
  exact this

set_option maxHeartbeats 1600000 in
set_option maxRecDepth 100000 in
theorem endBlock_any (b t o : Nat) (pre post : List Value) (d : Db) (H : Nat → Hd) (bl : List (Nat × Nat)) (x : Nat × Nat) (w : World) (h : DbIs w b t pre post d H) (ho : pre.length = o) (hbl : d.blocks = bl ++ [x])
    (hs : Small d 1073741824) (hx : x.1 ≤ 1073741824 ∧ x.2 ≤ 1073741824) :
    Calls Try.prog 56 #[.pointer (some ⟨b, o, none⟩)] w fun e w' => e = .returned (.tuple #[]) ∧ DbIs w' b t pre post (endBlockF d bl x) H ∧ Turned b w H w' H := by
  obtain ⟨q0, q1, q2, q3, q4, q5, q6, q7, q8⟩ := h.cells o ho
  obtain ⟨x1, x2⟩ := x
  simp only at hx
  have hfr := h.free
  have hbw := h.lt
  have hw5 := h.own 5 (by omega)
  have hw5' : Owns w (H 5) (rowB (bl ++ [(x1, x2)])) := by have := hw5; simp only [rowsOf, hbl] at this; exact this
  have hlen := hs.blocks
  rw [hbl] at hlen q5
  simp only [List.length_append, List.length_cons, List.length_nil] at hlen q5
  rcases hw5'.ways with ⟨e0, h0, _⟩ | ⟨g, cur, e1, e2, e3, e4, e5, e6⟩
  · have h0' : (bl ++ [(x1, x2)]).length = 0 := h0
    simp at h0'
  · have p1 := hw5'.cell e1 (bl.length * 2) _ (pairs_last bl (x1, x2)).1
    have p2 := hw5'.cell e1 (bl.length * 2 + 1) _ (pairs_last bl (x1, x2)).2
    have hcap : bl.length + 1 ≤ (H 5).cap := by have : (bl ++ [(x1, x2)]).length ≤ (H 5).cap := e3; simpa using this
    have hcap2 : (H 5).cap ≤ 9223372036854775807 := by unfold maxLen at e4; exact e4
    have hg := lt_of_get e2
    have P1 := end_after 5 5 (d' := { d with blocks := bl }) h ho (by omega) hw5'.pop (rows_blocks d bl) (.slice (some ⟨g, 0, none⟩) bl.length (H 5).cap) (by omega) (by simp [dbList, upd, e1])
    obtain ⟨w2, hw2⟩ : ∃ w2, w2 = (w.setCell ⟨b, o + 5, none⟩ (.slice (some ⟨g, 0, none⟩) bl.length (H 5).cap)).alloc (.cells #[.int .i64 x1, .int .i64 x2] 102) := ⟨_, rfl⟩
    have D2 : DbIs w2 b t pre post { d with blocks := bl } H := by rw [hw2]; exact P1.1.still ((Kept.refl [] _).alloc _)
    have T2 : Turned b w H w2 H := by rw [hw2]; exact P1.2.still ((Kept.refl [] _).alloc _)
    have B2 : w2.heap[w.heap.size]? = some (.cells #[.int .i64 x1, .int .i64 x2] 102 (0, 0)) := by
      rw [hw2]
      have := heap_alloc_new (w.setCell ⟨b, o + 5, none⟩ (.slice (some ⟨g, 0, none⟩) bl.length (H 5).cap)) (.cells #[.int .i64 x1, .int .i64 x2] 102)
      simpa [World.setCell] using this
    have HW : Hid ((w.setCell ⟨b, o + 5, none⟩ (.slice (some ⟨g, 0, none⟩) bl.length (H 5).cap)).alloc (.cells #[.int .i64 x1, .int .i64 x2] 102) = w2) := hw2.symm
    have HL2 := hs.active
    have HL3 := hs.typed
    rw [e1] at q5
    simp only at p1 p2
    clear hw5 hw5' e3 e4 e5 e6 e2 h P1 hw2
    go_enter Try.func56, Try.ntmps56
    go_upto_region 4 with fail
    rw [HW.out]
    have c0 : w2.cell? ⟨w.heap.size, 0, none⟩ = some (.int .i64 x1) := by rw [cell_of B2]; rfl
    have c1 : w2.cell? ⟨w.heap.size, 1, none⟩ = some (.int .i64 x2) := by rw [cell_of B2]; rfl
    have hne : w.heap.size ≠ b := by omega
    have hB2 := lt_of_get B2
    clear HW q0 q1 q2 q3 q4 q5 q6 q7 q8 p1 p2 hfr hg
    obtain ⟨q0, q1, q2, q3, q4, q5, q6, q7, q8⟩ := D2.cells o ho
    have hfr := D2.free
    obtain ⟨m1, hm1⟩ : ∃ m, Hid ((d.active.take x1).length = m) := ⟨_, rfl⟩
    obtain ⟨m2, hm2⟩ : ∃ m, Hid ((d.typed.take x2).length = m) := ⟨_, rfl⟩
    have P3 := end_after 3 3 (d' := { d with blocks := bl, active := d.active.take x1 }) D2 ho (by omega) ((D2.own 3 (by omega)).taken x1) (rows_active { d with blocks := bl } (d.active.take x1)) (.slice (H 3).ao m1 (H 3).cap) (by omega) (by simp only [dbList, upd_same, ← hm1.out]; rfl)
    obtain ⟨w3, hw3⟩ : ∃ w3, w3 = (w2.setCell ⟨b, o + 3, none⟩ (.slice (H 3).ao m1 (H 3).cap)).drew := ⟨_, rfl⟩
    have D3 : Hid (DbIs w3 b t pre post { d with blocks := bl, active := d.active.take x1 } H) := by rw [hw3]; exact P3.1.still (Kept.refl [] _).drew
    have T3 : Hid (Turned b w H w3 H) := by rw [hw3]; exact T2.trans (P3.2.still (Kept.refl [] _).drew)
    have B3 : Hid (w3.heap[w.heap.size]? = some (.cells #[.int .i64 x1, .int .i64 x2] 102 (0, 0))) := by
      show w3.heap[w.heap.size]? = _
      rw [hw3]
      exact (Below.heap_setCell w2 ⟨b, o + 3, none⟩ (.slice (H 3).ao m1 (H 3).cap) w.heap.size hne).trans B2
    have HW3 : Hid ((w2.setCell ⟨b, o + 3, none⟩ (.slice (H 3).ao m1 (H 3).cap)).drew = w3) := hw3.symm
    clear hw3 P3
    go_region_with (go_at_call 67; refine (firstm_any (H 3) d.active x1 m1 _ hm1 (by exact D2.own 3 (by omega)) hx.1).mono ?_; rintro e w3 ⟨rfl, rfl⟩)
    all_goals go_upto_region 5 with fail
    all_goals rw [HW3.out]
    all_goals
      clear HW3 q0 q1 q2 q3 q4 q5 q6 q7 q8 hfr D2 T2 B2 c0 c1 hB2
      have c0 : w3.cell? ⟨w.heap.size, 0, none⟩ = some (.int .i64 x1) := by rw [cell_of B3.out]; rfl
      have c1 : w3.cell? ⟨w.heap.size, 1, none⟩ = some (.int .i64 x2) := by rw [cell_of B3.out]; rfl
      obtain ⟨q0, q1, q2, q3, q4, q5, q6, q7, q8⟩ := D3.out.cells o ho
      have hfr := D3.out.free
      have P4 := end_after 4 4 (d' := endBlockF d bl (x1, x2)) D3.out ho (by omega) ((D3.out.own 4 (by omega)).taken x2) (rows_typed { d with blocks := bl, active := d.active.take x1 } (d.typed.take x2)) (.slice (H 4).ao m2 (H 4).cap) (by omega) (by simp only [dbList, endBlockF, upd_same, ← hm2.out]; rfl)
      have HP4 := (show Hid _ from P4)
      clear P4
      go_region_with (go_at_call 67; refine (firstm_any (H 4) d.typed x2 m2 _ hm2 (by exact D3.out.own 4 (by omega)) hx.2).mono ?_; rintro e w3 ⟨rfl, rfl⟩)
      all_goals go_wp2
      all_goals go_end0
      all_goals exact ⟨rfl, HP4.out.1.still (Kept.refl [] _).drew, T3.out.trans (HP4.out.2.still (Kept.refl [] _).drew)⟩

end Go.Proofs.Ytkblmflajfomaaa
