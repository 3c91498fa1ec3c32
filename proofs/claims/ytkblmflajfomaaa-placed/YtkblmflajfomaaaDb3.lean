/- Package statements: addVariable; the set of names; blocks. -/
import Derived.Test.YtkblmflajfomaaaDb2
namespace Go.Proofs.Ytkblmflajfomaaa
open Go.RowKit

def addVariableF (d : Db) (x : ByteArray) : Db :=
  if hasF d.variables x = true then { d with active := d.active ++ [x] } else { d with active := d.active ++ [x], variables := d.variables ++ [x] }

set_option maxHeartbeats 800000 in
set_option maxRecDepth 100000 in
theorem addVariable_any (b t o : Nat) (pre post : List Value) (d : Db) (H : Nat → Hd) (x : ByteArray) (w : World) (h : DbIs w b t pre post d H) (ho : pre.length = o) (hl : d.active.length ≤ 1073741824) (hv : d.variables.length ≤ 1073741824) :
    Calls Try.prog 71 #[.pointer (some ⟨b, o, none⟩), .string x] w fun e w' => e = .returned (.tuple #[]) ∧ ∃ H', DbIs w' b t pre post (addVariableF d x) H' ∧ Turned b w H w' H' := by
  obtain ⟨i0, hi, hz0, hz1, hz2⟩ := info_parts infoS
  obtain ⟨q0, q1, q2, q3, q4, q5, q6, q7, q8⟩ := h.cells o ho
  have hfr := h.free
  have hbw := h.lt
  cases hb : hasF d.variables x
  · have HV : Hid (addVariableF d x = { d with active := d.active ++ [x], variables := d.variables ++ [x] }) := by show addVariableF d x = _; simp [addVariableF, hb]
    go_enter Try.func71, Try.ntmps71
    have hA1 := h.still ((Kept.refl [] w).alloc (.cells #[.string x] 9))
    have hownA1 := hA1.own 3 (by omega)
    have hbA1 := h.lt
    go_wp2_with (at_builtin; refine wpList_append_row _ rfl (.tmp 8) (.tmp 10) 22 rfl i0 (.string ⟨#[]⟩) 16 (H 3) (rowS d.active) Try.underlying22 hi hz0 hz1 hz2 rfl Nat.one_pos rfl (by exact hownA1) ⟨w.heap.size, 0, none⟩ 1 1 [.string x] rfl rfl ?c11 ?c21 Nat.one_pos ?c31 ?c41 ?_)
    case c11 => intro j u hj; match j, hj with | 0, hj => simp at hj; subst hj; simp [Addr.add]
    case c21 => intro u hu; simp at hu; subst hu; rfl
    case c31 => simp only [rowS]; unfold maxLen; omega
    case c41 => simp only [rowS]; omega
    intro g1 cap1 w1 hw1 hgr1 hfresh1
    have hk1 := (hgr1.block b (by simp; omega) (fun e => h.off 3 (by omega) e.symm)).trans hA1.blk
    have hc1 := fun i (hi : i < 9) => (cell_of hk1 (o + i)).trans (mid_get pre (dbList d H) post o i ho hi)
    have f1 := free_of hk1 (o + 3)
    have P1 := hA1.put (d' := { d with active := d.active ++ [x] }) o 3 ho 3 (by omega) ⟨some ⟨g1, 0, none⟩, cap1⟩ (by rw [rowS_snoc] at hw1; exact hw1) hgr1
      (by rcases hfresh1 with e | e
          · exact Or.inr (Or.inl e.symm)
          · exact Or.inr (Or.inr ⟨g1, rfl, by simpa using e⟩))
      (by intro j hj hne; match j, hj with | 0, _ => first | rfl | omega
                                               | 1, _ => first | rfl | omega
                                               | 2, _ => first | rfl | omega
                                               | 3, _ => first | rfl | omega
                                               | 4, _ => first | rfl | omega
                                               | 5, _ => first | rfl | omega
                                               | 6, _ => first | rfl | omega)
      (.slice (some ⟨g1, 0, none⟩) ((rowS d.active).n + 1) cap1) (by omega) (by simp [dbList, upd, rowS])
    have HP1 := (show Hid _ from P1)
    have k1 : w1.cell? ⟨b, o + 3, none⟩ = some (.slice (H 3).ao d.active.length (H 3).cap) := hc1 3 (by omega)
    have kk1_2 : w1.cell? ⟨b, o + 2, none⟩ = some (.slice (H 2).ao d.variables.length (H 2).cap) := hc1 2 (by omega)
    clear P1 hA1 hownA1 hw1 hgr1 hfresh1 hk1 hc1
    clear q0 q1 q2 q3 q4 q5 q6 q7 q8 hfr
    go_wp2_with fail
    refine (has_any (H 2) d.variables x _ (by exact HP1.out.1.own 2 (by omega)) hv).mono ?_
    rintro e w2 ⟨rfl, hw2⟩
    have D2 : DbIs w2 b t pre post _ _ := hw2 ▸ HP1.out.1
    have T2 : Turned b _ H w2 _ := hw2 ▸ HP1.out.2
    clear hw2 HP1 k1 kk1_2 f1
    generalize hH2 : upd H 3 ⟨some ⟨g1, 0, none⟩, cap1⟩ = H2 at *
    clear hH2
    generalize hd2 : ({ d with active := d.active ++ [x] } : Db) = d2 at *
    have e3 : Hid (d2.variables = d.variables) := by show d2.variables = _; rw [← hd2]
    have e4 : Hid (({ d2 with variables := d2.variables ++ [x] } : Db) = { d with active := d.active ++ [x], variables := d.variables ++ [x] }) := by show _ = _; rw [← hd2]
    clear hd2
    obtain ⟨q0, q1, q2, q3, q4, q5, q6, q7, q8⟩ := D2.cells o ho
    have hfr := D2.free
    have hv2 : d2.variables.length ≤ 1073741824 := by rw [e3.out]; exact hv
    have hA3 := D2.still ((Kept.refl [] w2).alloc (.cells #[.string x] 9))
    have hownA3 := hA3.own 2 (by omega)
    have hbA3 := D2.lt
    go_wp2_with (at_builtin; refine wpList_append_row _ rfl (.tmp 25) (.tmp 27) 22 rfl i0 (.string ⟨#[]⟩) 16 (H2 2) (rowS d2.variables) Try.underlying22 hi hz0 hz1 hz2 rfl Nat.one_pos rfl (by exact hownA3) ⟨w2.heap.size, 0, none⟩ 1 1 [.string x] rfl rfl ?c13 ?c23 Nat.one_pos ?c33 ?c43 ?_)
    case c13 => intro j u hj; match j, hj with | 0, hj => simp at hj; subst hj; simp [Addr.add]
    case c23 => intro u hu; simp at hu; subst hu; rfl
    case c33 => simp only [rowS]; unfold maxLen; omega
    case c43 => simp only [rowS]; omega
    intro g3 cap3 w3 hw3 hgr3 hfresh3
    have hk3 := (hgr3.block b (by simp; omega) (fun e => D2.off 2 (by omega) e.symm)).trans hA3.blk
    have hc3 := fun i (hi : i < 9) => (cell_of hk3 (o + i)).trans (mid_get pre (dbList d2 H2) post o i ho hi)
    have f3 := free_of hk3 (o + 2)
    have P3 := hA3.put (d' := { d2 with variables := d2.variables ++ [x] }) o 2 ho 2 (by omega) ⟨some ⟨g3, 0, none⟩, cap3⟩ (by rw [rowS_snoc] at hw3; exact hw3) hgr3
      (by rcases hfresh3 with e | e
          · exact Or.inr (Or.inl e.symm)
          · exact Or.inr (Or.inr ⟨g3, rfl, by simpa using e⟩))
      (by intro j hj hne; match j, hj with | 0, _ => first | rfl | omega
                                               | 1, _ => first | rfl | omega
                                               | 2, _ => first | rfl | omega
                                               | 3, _ => first | rfl | omega
                                               | 4, _ => first | rfl | omega
                                               | 5, _ => first | rfl | omega
                                               | 6, _ => first | rfl | omega)
      (.slice (some ⟨g3, 0, none⟩) ((rowS d2.variables).n + 1) cap3) (by omega) (by simp [dbList, upd, rowS])
    have HP3 := (show Hid _ from P3)
    have k3 : w3.cell? ⟨b, o + 2, none⟩ = some (.slice (H2 2).ao d2.variables.length (H2 2).cap) := hc3 2 (by omega)
    clear P3 hA3 hownA3 hw3 hgr3 hfresh3 hk3 hc3
    clear q0 q1 q2 q3 q4 q5 q6 q7 q8 hfr
    go_wp2
    go_end0
    exact ⟨rfl, _, by rw [HV.out, ← e4.out]; exact HP3.out.1, (T2.first ((Kept.refl [] w).alloc _)).trans (HP3.out.2.first ((Kept.refl [] _).alloc _))⟩
  · have HV : Hid (addVariableF d x = { d with active := d.active ++ [x] }) := by show addVariableF d x = _; simp [addVariableF, hb]
    go_enter Try.func71, Try.ntmps71
    have hA1 := h.still ((Kept.refl [] w).alloc (.cells #[.string x] 9))
    have hownA1 := hA1.own 3 (by omega)
    have hbA1 := h.lt
    go_wp2_with (at_builtin; refine wpList_append_row _ rfl (.tmp 8) (.tmp 10) 22 rfl i0 (.string ⟨#[]⟩) 16 (H 3) (rowS d.active) Try.underlying22 hi hz0 hz1 hz2 rfl Nat.one_pos rfl (by exact hownA1) ⟨w.heap.size, 0, none⟩ 1 1 [.string x] rfl rfl ?c11 ?c21 Nat.one_pos ?c31 ?c41 ?_)
    case c11 => intro j u hj; match j, hj with | 0, hj => simp at hj; subst hj; simp [Addr.add]
    case c21 => intro u hu; simp at hu; subst hu; rfl
    case c31 => simp only [rowS]; unfold maxLen; omega
    case c41 => simp only [rowS]; omega
    intro g1 cap1 w1 hw1 hgr1 hfresh1
    have hk1 := (hgr1.block b (by simp; omega) (fun e => h.off 3 (by omega) e.symm)).trans hA1.blk
    have hc1 := fun i (hi : i < 9) => (cell_of hk1 (o + i)).trans (mid_get pre (dbList d H) post o i ho hi)
    have f1 := free_of hk1 (o + 3)
    have P1 := hA1.put (d' := { d with active := d.active ++ [x] }) o 3 ho 3 (by omega) ⟨some ⟨g1, 0, none⟩, cap1⟩ (by rw [rowS_snoc] at hw1; exact hw1) hgr1
      (by rcases hfresh1 with e | e
          · exact Or.inr (Or.inl e.symm)
          · exact Or.inr (Or.inr ⟨g1, rfl, by simpa using e⟩))
      (by intro j hj hne; match j, hj with | 0, _ => first | rfl | omega
                                               | 1, _ => first | rfl | omega
                                               | 2, _ => first | rfl | omega
                                               | 3, _ => first | rfl | omega
                                               | 4, _ => first | rfl | omega
                                               | 5, _ => first | rfl | omega
                                               | 6, _ => first | rfl | omega)
      (.slice (some ⟨g1, 0, none⟩) ((rowS d.active).n + 1) cap1) (by omega) (by simp [dbList, upd, rowS])
    have HP1 := (show Hid _ from P1)
    have k1 : w1.cell? ⟨b, o + 3, none⟩ = some (.slice (H 3).ao d.active.length (H 3).cap) := hc1 3 (by omega)
    have kk1_2 : w1.cell? ⟨b, o + 2, none⟩ = some (.slice (H 2).ao d.variables.length (H 2).cap) := hc1 2 (by omega)
    clear P1 hA1 hownA1 hw1 hgr1 hfresh1 hk1 hc1
    clear q0 q1 q2 q3 q4 q5 q6 q7 q8 hfr
    go_wp2_with fail
    refine (has_any (H 2) d.variables x _ (by exact HP1.out.1.own 2 (by omega)) hv).mono ?_
    rintro e w2 ⟨rfl, hw2⟩
    have D2 : DbIs w2 b t pre post _ _ := hw2 ▸ HP1.out.1
    have T2 : Turned b _ H w2 _ := hw2 ▸ HP1.out.2
    clear hw2 HP1 k1 kk1_2 f1
    go_wp2
    go_end0
    exact ⟨rfl, _, by rw [HV.out]; exact D2, T2.first ((Kept.refl [] w).alloc _)⟩

end Go.Proofs.Ytkblmflajfomaaa
