/- Our texts: Db10, Db11, Db12. -/
import Derived.BigQuiet
import Derived.Deep.RegionHeld3
import Derived.Test.YtkancbaldeeijaaGreatG05
/- Package record: Add. -/
namespace Go.Proofs.YtkancbaldeeijaaGreat
open Go.RowKit

theorem wordsV_one (l : List (ByteArray × Pl)) : ∀ u ∈ wordsV l, u.oneCell' = true := by
  intro u hu
  simp only [wordsV, List.mem_flatMap] at hu
  obtain ⟨p, _, hu⟩ := hu
  simp only [wordV, List.mem_cons, List.not_mem_nil, or_false] at hu
  rcases hu with rfl | rfl | rfl | rfl <;> rfl
theorem stV_one (s : St) (a b : Hd) : ∀ u ∈ stV s a b, u.oneCell' = true := by
  intro u hu
  simp only [stV, List.mem_cons, List.not_mem_nil, or_false] at hu
  rcases hu with rfl | rfl | rfl | rfl | rfl | rfl | rfl | rfl <;> rfl

set_option maxHeartbeats 2000000 in
set_option maxRecDepth 100000 in
theorem recAdd_any (b t o : Nat) (pre post : List Value) (d : Db) (H : Nat → Hd) (k : Int) (lab f : ByteArray) (l c : Int) (w : World) (h : DbIs w b t pre post d H) (ho : pre.length = o) (hs : Small d 100000000) :
    Calls Tryz.prog 116 #[.pointer (some ⟨b, o + 6, none⟩), .agg #[.int .i64 k, .string lab, .slice (H 8).ao d.symbols.length (H 8).cap, .slice (H 9).ao d.proof.length (H 9).cap, .string f, .int .i64 l, .int .i64 c, .int .i64 0]] w fun e w' =>
      e = .returned (.tuple #[]) ∧ ∃ H', DbIs w' b t pre post { d with sts := d.sts ++ [⟨k, lab, d.symbols, d.proof, ⟨f, l, c⟩, 0⟩] } H' ∧ Turned b w H w' H' ∧ ∀ j, j < 10 → j ≠ 6 → H' j = H j := by
  obtain ⟨i0, hi, hz0, hz1, hz2⟩ := info_parts infoS
  obtain ⟨i1, hi1, hy0, hy1, hy2⟩ := info_parts infoW
  obtain ⟨i2, hi2, hx0, hx1, hx2⟩ := info_parts infoT
  have hl8 := hs.symbols
  have hl9 := hs.proof
  have hl6 := hs.sts
  have m1 := fun w => run_make_row (P := Tryz.prog) w 22 9 i0 _ Tryz.underlying22 hi hz0 d.symbols.length 1 hz1 (by rw [hz2]; omega) (by omega)
  have m2 := fun w => run_make_row (P := Tryz.prog) w 89 131 i1 _ Tryz.underlying89 hi1 hy0 d.proof.length 4 hy1 (by rw [hy2]; omega) (by omega)
  obtain ⟨mc1, hmc1⟩ : ∃ mc, mc = madeCells (Value.string ⟨#[]⟩).cells (d.symbols.length * 1) := ⟨_, rfl⟩
  obtain ⟨mc2, hmc2⟩ : ∃ mc, mc = madeCells (Value.agg #[.string ⟨#[]⟩, .string ⟨#[]⟩, .int .i64 0, .int .i64 0]).cells (d.proof.length * 4) := ⟨_, rfl⟩
  have z1 : mc1.size = d.symbols.length * 1 := by rw [hmc1, size_madeCells]
  have z2 : mc2.size = d.proof.length * 4 := by rw [hmc2, size_madeCells]
  rw [← hmc1] at m1
  rw [← hmc2] at m2
  clear hmc1 hmc2
  obtain ⟨bx, hbx⟩ : ∃ bx : Array Value, bx = #[.int .i64 k, .string lab, .slice (H 8).ao d.symbols.length (H 8).cap, .slice (H 9).ao d.proof.length (H 9).cap, .string f, .int .i64 l, .int .i64 c, .int .i64 0] := ⟨_, rfl⟩
  obtain ⟨W2, hW2⟩ : ∃ W2, W2 = (w.alloc (.cells #[.int .i64 k, .string lab, .slice (H 8).ao d.symbols.length (H 8).cap, .slice (H 9).ao d.proof.length (H 9).cap, .string f, .int .i64 l, .int .i64 c, .int .i64 0] 100)).alloc (.cells mc1 9) := ⟨_, rfl⟩
  have K2 : Kept [] w W2 := by rw [hW2]; exact ((Kept.refl [] _).alloc _).alloc _
  have D2 := h.still K2
  have Z2 : W2.heap.size = w.heap.size + 2 := by rw [hW2]; simp
  have B2 : W2.heap[w.heap.size]? = some (.cells bx 100 (0, 0)) := by
    rw [hW2, hbx]; exact ((Kept.refl [] _).alloc _).get (heap_alloc_new _ _) (by simp)
  have G2 : W2.heap[w.heap.size + 1]? = some (.cells mc1 9 (0, 0)) := by
    rw [hW2]
    have := heap_alloc_new (w.alloc (.cells #[.int .i64 k, .string lab, .slice (H 8).ao d.symbols.length (H 8).cap, .slice (H 9).ao d.proof.length (H 9).cap, .string f, .int .i64 l, .int .i64 c, .int .i64 0] 100)) (.cells mc1 9)
    simpa using this
  have HW2 := (show Hid _ from hW2.symm)
  have hbw := h.lt
  have Hsz1 : Hid ((Tryz.prog.info? (rowS d.symbols).e).map (·.size) = some (rowS d.symbols).size) := by show _ = _; simp [rowS, hi, hz1]
  have Hsz2 : Hid ((Tryz.prog.info? (rowW d.proof).e).map (·.size) = some (rowW d.proof).size) := by show _ = _; simp [rowW, hi1, hy1]
  clear hW2
  go_enter Tryz.func116, Tryz.ntmps116
  go_upto_region 2 with fail
  rw [HW2.out]
  have b2 : W2.cell? ⟨w.heap.size, 2, none⟩ = some (.slice (H 8).ao d.symbols.length (H 8).cap) := by rw [cell_of B2, hbx]; rfl
  clear HW2 m1
  obtain ⟨w3, cp1, hg3, hk3, hz3⟩ := copy_full (P := Tryz.prog) W2 22 22 3 (w.heap.size + 1) d.symbols.length (H 8) (rowS d.symbols) mc1 9 Tryz.underlying22 Hsz1.out G2 (D2.own 8) z1 (strs_one _)
  simp only [rowS] at cp1 hg3
  have K3 : Kept [] w w3 := ((K2.mono (S' := [w.heap.size + 1]) (by simp)).trans hk3).mono (by simp)
  have B3 := hk3.get B2 (by simp)
  rw [Z2] at hz3
  have b3 : w3.cell? ⟨w.heap.size, 3, none⟩ = some (.slice (H 9).ao d.proof.length (H 9).cap) := by rw [cell_of B3, hbx]; rfl
  clear G2 B2 D2 hk3 K2
  obtain ⟨W4, hW4⟩ : ∃ W4, W4 = w3.alloc (.cells mc2 131) := ⟨_, rfl⟩
  have K4 : Kept [] w W4 := by rw [hW4]; exact K3.alloc _
  have k34 : Kept [] w3 W4 := by rw [hW4]; exact (Kept.refl [] _).alloc _
  have D4 := h.still K4
  have B4 := k34.get B3 (by simp)
  have S4 := k34.get hg3 (by simp)
  have G4 : W4.heap[w.heap.size + 2]? = some (.cells mc2 131 (0, 0)) := by rw [hW4, ← hz3]; exact heap_alloc_new _ _
  have HW4 := (show Hid _ from hW4.symm)
  have Z4 : W4.heap.size = w.heap.size + 3 := by rw [hW4]; simp [hz3]
  clear hW4 k34
  go_upto_region 4 with fail
  clear cp1 b2
  rw [HW4.out]
  have b4 : W4.cell? ⟨w.heap.size, 3, none⟩ = some (.slice (H 9).ao d.proof.length (H 9).cap) := by rw [cell_of B4, hbx]; rfl
  clear HW4 m2 b3
  obtain ⟨w5, cp2, hg5, hk5, hz5⟩ := copy_full (P := Tryz.prog) W4 89 89 3 (w.heap.size + 2) d.proof.length (H 9) (rowW d.proof) mc2 131 Tryz.underlying89 Hsz2.out G4 (D4.own 9) z2 (wordsV_one _)
  simp only [rowW] at cp2 hg5
  have K5 : Kept [] w w5 := ((K4.mono (S' := [w.heap.size + 2]) (by simp)).trans hk5).mono (by simp)
  have B5 := hk5.get B4 (by simp)
  have S5 := hk5.get S4 (by simp)
  rw [Z4] at hz5
  clear G4 B4 D4 hk5 K4 S4
  have bx2 : w5.cell? ⟨w.heap.size, 2, none⟩ = some (.slice (H 8).ao d.symbols.length (H 8).cap) := by rw [cell_of B5, hbx]; rfl
  have bx3 : w5.cell? ⟨w.heap.size, 3, none⟩ = some (.slice (H 9).ao d.proof.length (H 9).cap) := by rw [cell_of B5, hbx]; rfl
  have bx7 : w5.cell? ⟨w.heap.size, 7, none⟩ = some (.int .i64 0) := by rw [cell_of B5, hbx]; rfl
  have fx := free_of B5
  obtain ⟨W8, hW8⟩ : ∃ W8, W8 = ((w5.setCell ⟨w.heap.size, 2, none⟩ (.slice (some ⟨w.heap.size + 1, 0, none⟩) d.symbols.length d.symbols.length)).setCell ⟨w.heap.size, 3, none⟩ (.slice (some ⟨w.heap.size + 2, 0, none⟩) d.proof.length d.proof.length)).setCell ⟨w.heap.size, 7, none⟩ (.int .i64 0) := ⟨_, rfl⟩
  have HW8 := (show Hid _ from hW8.symm)
  have K8 : Kept [] w W8 := by rw [hW8]; exact ((K5.setCell (Or.inr (Nat.le_refl _)) _).setCell (Or.inr (Nat.le_refl _)) _).setCell (Or.inr (Nat.le_refl _)) _
  have k58 : Kept [w.heap.size] w5 W8 := by rw [hW8]; exact (((Kept.refl _ _).setCell (Or.inl (by simp)) _).setCell (Or.inl (by simp)) _).setCell (Or.inl (by simp)) _
  have B8 : W8.heap[w.heap.size]? = some (.cells (stV ⟨k, lab, d.symbols, d.proof, ⟨f, l, c⟩, 0⟩ ⟨some ⟨w.heap.size + 1, 0, none⟩, d.symbols.length⟩ ⟨some ⟨w.heap.size + 2, 0, none⟩, d.proof.length⟩).toArray 100 (0, 0)) := by
    rw [hW8, block_setCell (block_setCell (block_setCell B5 _ _) _ _), hbx]; rfl
  have S8 := k58.get S5 (by simp)
  have P8 := k58.get hg5 (by simp)
  clear hW8 k58 S5 hg5 B5
  go_upto_region 8 with fail
  rw [HW8.out]
  clear HW8 cp2 bx2 bx3 bx7 fx b4 K5 hbx hg3 hz3 B3 K3
  have y := fun j v (hv : (stV ⟨k, lab, d.symbols, d.proof, ⟨f, l, c⟩, 0⟩ ⟨some ⟨w.heap.size + 1, 0, none⟩, d.symbols.length⟩ ⟨some ⟨w.heap.size + 2, 0, none⟩, d.proof.length⟩)[j]? = some v) => (cell_of B8 j).trans (by simpa using hv)
  have y0 := y 0 _ rfl
  have y1 := y 1 _ rfl
  have y2 := y 2 _ rfl
  have y3 := y 3 _ rfl
  have y4 := y 4 _ rfl
  have y5 := y 5 _ rfl
  have y6 := y 6 _ rfl
  have y7 := y 7 _ rfl
  simp only at y0 y1 y2 y3 y4 y5 y6 y7
  clear y
  have D8 := h.still K8
  have q6 := D8.cellAt o ho 6 (by omega)
  simp only [dbList, List.getElem?_cons_succ, List.getElem?_cons_zero] at q6
  have hfr := D8.free
  have hb8 := D8.lt
  obtain ⟨news, hnews⟩ : ∃ news : List Value, news = stV ⟨k, lab, d.symbols, d.proof, ⟨f, l, c⟩, 0⟩ ⟨some ⟨w.heap.size + 1, 0, none⟩, d.symbols.length⟩ ⟨some ⟨w.heap.size + 2, 0, none⟩, d.proof.length⟩ := ⟨_, rfl⟩
  obtain ⟨W9, hW9⟩ : ∃ W9, W9 = (W8.alloc (.cells #[.int .i64 k, .string lab, .slice (some ⟨w.heap.size + 1, 0, none⟩) d.symbols.length d.symbols.length, .slice (some ⟨w.heap.size + 2, 0, none⟩) d.proof.length d.proof.length, .string f, .int .i64 l, .int .i64 c, .int .i64 0] 100)).drew := ⟨_, rfl⟩
  have K9 : Kept [] W8 W9 := by rw [hW9]; exact ((Kept.refl [] _).alloc _).drew
  have G9 : W9.heap[W8.heap.size]? = some (.cells news.toArray 100 (0, 0)) := by rw [hW9, hnews]; exact heap_alloc_new _ _
  have O1 : Owns W9 ⟨some ⟨w.heap.size + 1, 0, none⟩, d.symbols.length⟩ (rowS d.symbols) := Owns.made (r := rowS d.symbols) (K9.get S8 (by simp)) (strs_len _) (by simp only [rowS]; unfold maxLen; omega)
  have O2 : Owns W9 ⟨some ⟨w.heap.size + 2, 0, none⟩, d.proof.length⟩ (rowW d.proof) := Owns.made (r := rowW d.proof) (K9.get P8 (by simp)) (wordsV_len _) (by simp only [rowW]; unfold maxLen; omega)
  have D9 : Hid (DbIs W9 b t pre post d H) := D8.still K9
  have s2 : Hid (∀ j u, news[j]? = some u → W9.cell? ((⟨W8.heap.size, 0, none⟩ : Addr).add j) = some u) := by
    intro j u hj
    rw [addr_add, cell_of G9]; simpa using hj
  have s3 : Hid (∀ u ∈ news, u.oneCell' = true) := by rw [hnews]; exact stV_one _ _ _
  have s4 : Hid ((rowT d.sts H).n + 1 ≤ maxLen) := by show _ ≤ _; simp only [rowT]; unfold maxLen; omega
  have s5 : Hid (((rowT d.sts H).n + 1) * 112 ≤ 140737488355328) := by show _ ≤ _; simp only [rowT]; omega
  have AF := fun (g cap' : Nat) (w1 : World) (hw1 : Owns w1 ⟨some ⟨g, 0, none⟩, cap'⟩ ⟨(rowT d.sts H).e, (rowT d.sts H).size, (rowT d.sts H).n + 1, (rowT d.sts H).xs ++ news⟩) hgr hfresh => h.addst (K8.trans K9) ho ⟨k, lab, d.symbols, d.proof, ⟨f, l, c⟩, 0⟩ ⟨some ⟨w.heap.size + 1, 0, none⟩, d.symbols.length⟩ ⟨some ⟨w.heap.size + 2, 0, none⟩, d.proof.length⟩ (w.heap.size + 1) (w.heap.size + 2) rfl rfl (by omega) (by omega) (by omega) O1 O2 g cap' (w1 := w1) (by rw [← hnews]; exact hw1) hgr hfresh
  have HAF := (show Hid _ from AF)
  have hlen : Hid (news.length = 1 * (rowT d.sts H).size) := by show _ = _; rw [hnews]; rfl
  rw [hW9] at D9 s2 HAF
  clear AF O1 O2 G9 K9 hW9 W9 hnews P8 S8 B8
  go_region_law (refine step_append_row rfl (.tmp 31) (.tmp 33) 61 rfl i2 (.agg #[.int .i64 0, .string ⟨#[]⟩, .slice none 0 0, .slice none 0 0, .string ⟨#[]⟩, .int .i64 0, .int .i64 0, .int .i64 0]) 112 (H 6) (rowT d.sts H) Tryz.underlying61 hi2 hx0 hx1 hx2 rfl (Nat.succ_pos 7) (by simp [Act.eval] <;> rfl) (D9.out.own 6) ⟨W8.heap.size, 0, none⟩ 1 1 news (by simp [Act.eval]) hlen.out s2.out s3.out Nat.one_pos s4.out s5.out ?_; intro g cap' w1 hw1 hgr hfresh; obtain ⟨k5, f5, HP⟩ := HAF.out g cap' w1 hw1 hgr (by simpa using hfresh); clear hw1 hgr hfresh)
  all_goals go_wp2
  all_goals go_end0
  all_goals
    obtain ⟨H', P1, P2, P3⟩ := HP.out
    exact ⟨rfl, H', P1, P2, P3⟩

end Go.Proofs.YtkancbaldeeijaaGreat

/- Package statements: what a statement declares. -/
namespace Go.Proofs.YtkancbaldeeijaaGreat
open Go.RowKit

def addSt (d : Db) (p : Pl) : Db := { d with sts := d.sts ++ [⟨d.kind, d.label, d.symbols, d.proof, p, 0⟩] }
def typeIt (d : Db) : Db := if (d.kind == 2) = true ∧ 1 < d.symbols.length then { d with typed := d.typed ++ [d.symbols.getD 1 ⟨#[]⟩] } else d
def declareF (d : Db) (p : Pl) : Db :=
  if (d.kind == 7) = true then { d with constants := d.constants ++ d.symbols }
  else if (d.kind == 8) = true then varsAt d d.symbols.length
  else addSt (typeIt d) p

theorem build_st (w : World) (k l c : Int) (lab f : ByteArray) (a1 a2 : Option Addr) (n1 c1 n2 c2 : Nat) :
    (Instr.build 100 #[(0, .int .i64 k), (1, .string lab), (2, .slice a1 n1 c1), (3, .slice a2 n2 c2), (4, .agg #[.string f, .int .i64 l, .int .i64 c])]).run Tryz.prog w =
      .ok (.agg #[.int .i64 k, .string lab, .slice a1 n1 c1, .slice a2 n2 c2, .string f, .int .i64 l, .int .i64 c, .int .i64 0]) w :=
  run_build w 100 _ _ (by kernel_rfl)
attribute [local go_sem] build_st

theorem S_after {w : World} {b t o : Nat} {pre post : List Value} {d : Db} {H H0 : Nat → Hd} (D : DbIs w b t pre post d H) (ho : pre.length = o) (e8 : H 8 = H0 8) (e9 : H 9 = H0 9) :
    w.cell? ⟨b, o + 8, none⟩ = some (.int .i64 d.kind) ∧ w.cell? ⟨b, o + 9, none⟩ = some (.string d.label) ∧ w.cell? ⟨b, o + 10, none⟩ = some (.slice (H0 8).ao d.symbols.length (H0 8).cap) ∧ w.cell? ⟨b, o + 12, none⟩ = some (.slice (H0 9).ao d.proof.length (H0 9).cap) := by
  obtain ⟨q0, q1, q2, q3, q4, q5, q6, q7, q8, q9, q10, q11, q12⟩ := D.cells o ho
  rw [e8] at q10
  rw [e9] at q12
  exact ⟨q8, q9, q10, q12⟩
theorem P_after {w w' : World} {b P : Nat} {H H' : Nat → Hd} {f : ByteArray} {l c : Int} (T : Turned b w H w' H') (B : w.heap[P]? = some (.cells #[.string f, .int .i64 l, .int .i64 c] 45 (0, 0))) (h1 : P ≠ b) (h2 : ∀ k, InH H k → k ≠ P) :
    w'.cell? ⟨P, 0, none⟩ = some (.string f) ∧ w'.cell? ⟨P, 1, none⟩ = some (.int .i64 l) ∧ w'.cell? ⟨P, 2, none⟩ = some (.int .i64 c) := by
  have B2 := T.1.get B (by rintro (e | e); exact h1 e; exact h2 _ e rfl)
  refine ⟨?_, ?_, ?_⟩ <;> rw [cell_of B2] <;> rfl

set_option maxHeartbeats 2000000 in
set_option maxRecDepth 100000 in
theorem declare_any (b t o : Nat) (pre post : List Value) (d : Db) (H : Nat → Hd) (f : ByteArray) (l c : Int) (w : World) (h : DbIs w b t pre post d H) (ho : pre.length = o) (hm : 0 < d.symbols.length) (hs : Small d 10000000) :
    Calls Tryz.prog 98 #[.pointer (some ⟨b, o, none⟩), .agg #[.string f, .int .i64 l, .int .i64 c]] w fun e w' => e = .returned (.tuple #[]) ∧ ∃ H', DbIs w' b t pre post (declareF d ⟨f, l, c⟩) H' ∧ Turned b w H w' H' := by
  obtain ⟨W, hW⟩ : ∃ W, W = w.alloc (.cells #[.string f, .int .i64 l, .int .i64 c] 45) := ⟨_, rfl⟩
  have K : Kept [] w W := by rw [hW]; exact (Kept.refl [] _).alloc _
  have D := h.still K
  have HW := (show Hid _ from hW.symm)
  have B : W.heap[w.heap.size]? = some (.cells #[.string f, .int .i64 l, .int .i64 c] 45 (0, 0)) := by rw [hW]; exact heap_alloc_new _ _
  have hnb : w.heap.size ≠ b := by have := h.lt; omega
  have hni : Hid (∀ k, InH H k → k ≠ w.heap.size) := fun k hk => by have := h.inlt hk; omega
  have hs8 := (show Hid (Small d 100000000) from ⟨by have := hs.labels; omega, by have := hs.constants; omega, by have := hs.variables; omega, by have := hs.active; omega, by have := hs.typed; omega, by have := hs.blocks; omega, by have := hs.sts; omega, by have := hs.rbl; omega, by have := hs.symbols; omega, by have := hs.proof; omega⟩)
  clear hW
  obtain ⟨q0, q1, q2, q3, q4, q5, q6, q7, q8, q9, q10, q11, q12⟩ := D.cells o ho
  clear q0 q1 q2 q3 q4 q5 q6 q7 q11
  have hsl := hs.symbols
  cases k7 : (d.kind == 7)
  · cases k8 : (d.kind == 8)
    · by_cases k2 : (d.kind == 2) = true ∧ 1 < d.symbols.length
      · have HT : Hid (declareF d ⟨f, l, c⟩ = addSt { d with typed := d.typed ++ [d.symbols.getD 1 ⟨#[]⟩] } ⟨f, l, c⟩) := by show declareF d ⟨f, l, c⟩ = _; unfold declareF typeIt; rw [k7, k8, if_pos k2]; simp
        obtain ⟨k2', hnl⟩ := k2
        have hx : d.symbols.getD 1 ⟨#[]⟩ = d.symbols[1] := by rw [List.getD_eq_getElem?_getD, List.getElem?_eq_getElem hnl]; rfl
        rw [hx] at HT
        have hw8 : Owns W (H 8) (rowS d.symbols) := D.own 8
        rcases hw8.ways with ⟨_, h0, _⟩ | ⟨g8, cur8, e8, -, e83, -⟩
        · have : d.symbols.length = 0 := h0
          omega
        · have c1 := hw8.cell e8 1 (.string d.symbols[1]) (strs_at d.symbols 1 hnl)
          rw [e8] at q10
          have hcp : d.symbols.length ≤ (H 8).cap := e83
          have htl := hs.typed
          clear hw8 hx
          generalize d.symbols[1] = x at *
          go_enter Tryz.func98, Tryz.ntmps98
          go_upto_region 1 with fail
          rw [HW.out]
          go_upto_region 3 with fail
          go_region_with (go_at_call 115; refine (addTyped_any b t o pre post d H x _ (by exact D.still (Kept.refl [] _).drew) ho (by omega)).mono ?_; rintro e w2 ⟨rfl, H2, D2, T2⟩)
          all_goals
            have hni2 := hni
            have B2 := T2.1.get (by exact B) (by rintro (e | e); exact hnb e; exact hni2.out _ e rfl)
            have hPW := lt_of_get B
            have hni3 : Hid (∀ k, InH H2 k → k ≠ w.heap.size) := fun k hk => by
              rcases T2.2 k hk with h' | h'
              · exact hni2.out k h'
              · rintro rfl
                have h2 : W.heap.size ≤ w.heap.size := h'
                omega
            have T2' := (show Hid _ from (T2.first (Kept.refl [] _).drew).first K)
            clear q8 q9 q10 q12 c1 T2 D B
            obtain ⟨q0, q1, q2, q3, q4, q5, q6, q7, q8, q9, q10, q11, q12⟩ := D2.cells o ho
            clear q0 q1 q2 q3 q4 q5 q6 q7 q11
            simp only at q8 q9 q10 q12
            have p0 : w2.cell? ⟨w.heap.size, 0, none⟩ = some (.string f) := by rw [cell_of B2]; rfl
            have p1 : w2.cell? ⟨w.heap.size, 1, none⟩ = some (.int .i64 l) := by rw [cell_of B2]; rfl
            have p2 : w2.cell? ⟨w.heap.size, 2, none⟩ = some (.int .i64 c) := by rw [cell_of B2]; rfl
            have hs9 := (show Hid (Small { d with typed := d.typed ++ [x] } 100000000) from ⟨by have := hs.labels; simp only; omega, by have := hs.constants; simp only; omega, by have := hs.variables; simp only; omega, by have := hs.active; simp only; omega, by simp; omega, by have := hs.blocks; simp only; omega, by have := hs.sts; simp only; omega, by have := hs.rbl; simp only; omega, by have := hs.symbols; simp only; omega, by have := hs.proof; simp only; omega⟩)
          all_goals go_upto_region 4 with fail
          all_goals go_region_held3 (fun w' => w'.cell? ⟨b, o + 8, none⟩ = some (.int .i64 d.kind) ∧ w'.cell? ⟨b, o + 9, none⟩ = some (.string d.label) ∧ w'.cell? ⟨b, o + 10, none⟩ = some (.slice (H2 8).ao d.symbols.length (H2 8).cap) ∧ w'.cell? ⟨b, o + 12, none⟩ = some (.slice (H2 9).ao d.proof.length (H2 9).cap) ∧ w'.cell? ⟨w.heap.size, 0, none⟩ = some (.string f) ∧ w'.cell? ⟨w.heap.size, 1, none⟩ = some (.int .i64 l) ∧ w'.cell? ⟨w.heap.size, 2, none⟩ = some (.int .i64 c)) (go_keep) (first | (go_at_call 116; refine (recAdd_any b t o pre post { d with typed := d.typed ++ [x] } H2 d.kind d.label f l c _ (by exact D2.still (Kept.refl [] _).drew) ho hs9.out).mono ?_; rintro e w9 ⟨rfl, H9, D9, T9, E9⟩; obtain ⟨r8, r9, r10, r12⟩ := S_after D9 ho (E9 8 (by omega) (by omega)) (E9 9 (by omega) (by omega)); obtain ⟨p0, p1, p2⟩ := P_after T9 (by exact B2) hnb hni3.out))
          all_goals go_wp2
          all_goals go_end0
          all_goals exact ⟨rfl, H9, by rw [HT.out]; exact D9, Turned.trans T2'.out (T9.first (Kept.refl [] _).drew)⟩
      · have HT : Hid (declareF d ⟨f, l, c⟩ = addSt d ⟨f, l, c⟩) := by show declareF d ⟨f, l, c⟩ = _; unfold declareF typeIt; rw [k7, k8, if_neg k2]; simp
        cases k2' : (d.kind == 2)
        · clear k2
          go_enter Tryz.func98, Tryz.ntmps98
          go_upto_region 1 with fail
          rw [HW.out]
          go_upto_region 4 with fail
          have p0 : W.cell? ⟨w.heap.size, 0, none⟩ = some (.string f) := by rw [cell_of B]; rfl
          have p1 : W.cell? ⟨w.heap.size, 1, none⟩ = some (.int .i64 l) := by rw [cell_of B]; rfl
          have p2 : W.cell? ⟨w.heap.size, 2, none⟩ = some (.int .i64 c) := by rw [cell_of B]; rfl
          go_region_held3 (fun w' => w'.cell? ⟨b, o + 8, none⟩ = some (.int .i64 d.kind) ∧ w'.cell? ⟨b, o + 9, none⟩ = some (.string d.label) ∧ w'.cell? ⟨b, o + 10, none⟩ = some (.slice (H 8).ao d.symbols.length (H 8).cap) ∧ w'.cell? ⟨b, o + 12, none⟩ = some (.slice (H 9).ao d.proof.length (H 9).cap) ∧ w'.cell? ⟨w.heap.size, 0, none⟩ = some (.string f) ∧ w'.cell? ⟨w.heap.size, 1, none⟩ = some (.int .i64 l) ∧ w'.cell? ⟨w.heap.size, 2, none⟩ = some (.int .i64 c)) (go_keep) (first | (go_at_call 116; refine (recAdd_any b t o pre post d H d.kind d.label f l c _ (by exact D.still (Kept.refl [] _).drew) ho hs8.out).mono ?_; rintro e w9 ⟨rfl, H9, D9, T9, E9⟩; obtain ⟨r8, r9, r10, r12⟩ := S_after D9 ho (E9 8 (by omega) (by omega)) (E9 9 (by omega) (by omega)); obtain ⟨p0, p1, p2⟩ := P_after T9 (by exact B) hnb hni.out))
          all_goals go_wp2
          all_goals go_end0
          all_goals exact ⟨rfl, H9, by rw [HT.out]; exact D9, (T9.first (Kept.refl [] _).drew).first K⟩
        · have hnl : ¬ 1 < d.symbols.length := fun hh => k2 ⟨k2', hh⟩
          clear k2
          go_enter Tryz.func98, Tryz.ntmps98
          go_upto_region 1 with fail
          rw [HW.out]
          go_upto_region 4 with fail
          have p0 : W.cell? ⟨w.heap.size, 0, none⟩ = some (.string f) := by rw [cell_of B]; rfl
          have p1 : W.cell? ⟨w.heap.size, 1, none⟩ = some (.int .i64 l) := by rw [cell_of B]; rfl
          have p2 : W.cell? ⟨w.heap.size, 2, none⟩ = some (.int .i64 c) := by rw [cell_of B]; rfl
          go_region_held3 (fun w' => w'.cell? ⟨b, o + 8, none⟩ = some (.int .i64 d.kind) ∧ w'.cell? ⟨b, o + 9, none⟩ = some (.string d.label) ∧ w'.cell? ⟨b, o + 10, none⟩ = some (.slice (H 8).ao d.symbols.length (H 8).cap) ∧ w'.cell? ⟨b, o + 12, none⟩ = some (.slice (H 9).ao d.proof.length (H 9).cap) ∧ w'.cell? ⟨w.heap.size, 0, none⟩ = some (.string f) ∧ w'.cell? ⟨w.heap.size, 1, none⟩ = some (.int .i64 l) ∧ w'.cell? ⟨w.heap.size, 2, none⟩ = some (.int .i64 c)) (go_keep) (first | (go_at_call 116; refine (recAdd_any b t o pre post d H d.kind d.label f l c _ (by exact D.still (Kept.refl [] _).drew) ho hs8.out).mono ?_; rintro e w9 ⟨rfl, H9, D9, T9, E9⟩; obtain ⟨r8, r9, r10, r12⟩ := S_after D9 ho (E9 8 (by omega) (by omega)) (E9 9 (by omega) (by omega)); obtain ⟨p0, p1, p2⟩ := P_after T9 (by exact B) hnb hni.out))
          all_goals go_wp2
          all_goals go_end0
          all_goals exact ⟨rfl, H9, by rw [HT.out]; exact D9, (T9.first (Kept.refl [] _).drew).first K⟩
    · have HT : Hid (declareF d ⟨f, l, c⟩ = varsAt d d.symbols.length) := by show declareF d ⟨f, l, c⟩ = _; unfold declareF; rw [k7, k8]; simp
      go_enter Tryz.func98, Tryz.ntmps98
      go_upto_region 1 with fail
      rw [HW.out]
      go_wp2_with fail
      go_region_with (go_at_call 114; refine (addVariables_any b t o pre post d H _ (by exact D.still (Kept.refl [] _).drew) ho hm hs8.out).mono ?_; rintro e w2 ⟨rfl, H2, D2, T2⟩)
      all_goals go_wp2
      all_goals go_end0
      all_goals exact ⟨rfl, H2, by rw [HT.out]; exact D2, (T2.first (Kept.refl [] _).drew).first K⟩
  · have HT : Hid (declareF d ⟨f, l, c⟩ = { d with constants := d.constants ++ d.symbols }) := by show declareF d ⟨f, l, c⟩ = _; unfold declareF; rw [k7]; simp
    go_enter Tryz.func98, Tryz.ntmps98
    go_upto_region 1 with fail
    rw [HW.out]
    go_wp2_with fail
    go_region_with (go_at_call 113; refine (addConstants_any b t o pre post d H _ (by exact D.still (Kept.refl [] _).drew) ho hm hs8.out).mono ?_; rintro e w2 ⟨rfl, H2, D2, T2⟩)
    all_goals go_wp2
    all_goals go_end0
    all_goals exact ⟨rfl, H2, by rw [HT.out]; exact D2, (T2.first (Kept.refl [] _).drew).first K⟩

end Go.Proofs.YtkancbaldeeijaaGreat

/- Package statements: which rule a symbol breaks. -/
namespace Go.Proofs.YtkancbaldeeijaaGreat
open Go.RowKit

def checkDisjointF (d : Db) (x : ByteArray) : Int := if hasF d.active x = false then 18 else if hasF d.symbols x = true then 19 else 0
def checkTypecodeF (d : Db) (x : ByteArray) : Int := if hasF d.constants x = false then 17 else 0
def checkFloatingF (d : Db) (x : ByteArray) : Int := if 1 < d.symbols.length then 16 else if hasF d.active x = false then 18 else if hasF d.typed x = true then 20 else 0
def checkExpressionF (d : Db) (x : ByteArray) : Int := if hasF d.constants x = true then 0 else if hasF d.active x = false then 21 else if hasF d.typed x = false then 22 else 0
def checkSymbolF (d : Db) (x : ByteArray) : Int :=
  if (d.kind == 7) = true then (if hasF d.symbols x = true ∨ isTakenF d x = true then 13 else 0)
  else if (d.kind == 8) = true then (if hasF d.symbols x = true ∨ isTakenVF d x = true then 13 else 0)
  else if (d.kind == 1) = true then checkDisjointF d x
  else if d.symbols.length = 0 then checkTypecodeF d x
  else if (d.kind == 2) = true then checkFloatingF d x
  else checkExpressionF d x

set_option maxHeartbeats 1000000 in
theorem checkDisjoint_any (b t o : Nat) (pre post : List Value) (d : Db) (H : Nat → Hd) (x : ByteArray) (w : World) (h : DbIs w b t pre post d H) (ho : pre.length = o) (hs : Small d 1073741824) :
    Calls Tryz.prog 102 #[.pointer (some ⟨b, o, none⟩), .string x] w fun e w' => e = .returned (.int .i64 (checkDisjointF d x)) ∧ w' = w := by
  obtain ⟨q0, q1, q2, q3, q4, q5, q6, q7, q8, q9, q10, q11, q12⟩ := h.cells o ho
  have hsl := hs.symbols
  cases h1 : hasF d.active x <;> cases h2 : hasF d.symbols x
  all_goals
    go_enter Tryz.func102, Tryz.ntmps102
    go_wp2_with (first | (go_at_call 117; refine (isActive_any b t o pre post d H x _ (by exact h) ho hs.active).mono ?_; rintro e w1 ⟨rfl, rfl⟩) | (go_at_call 99; refine (has_any (H 8) d.symbols x _ (by exact h.own 8) hs.symbols).mono ?_; rintro e w1 ⟨rfl, rfl⟩))
    go_ret
    exact ⟨ret_int (by simp [checkDisjointF, h1, h2]), rfl⟩

set_option maxHeartbeats 1000000 in
theorem checkTypecode_any (b t o : Nat) (pre post : List Value) (d : Db) (H : Nat → Hd) (x : ByteArray) (w : World) (h : DbIs w b t pre post d H) (ho : pre.length = o) (hs : Small d 1073741824) :
    Calls Tryz.prog 103 #[.pointer (some ⟨b, o, none⟩), .string x] w fun e w' => e = .returned (.int .i64 (checkTypecodeF d x)) ∧ w' = w := by
  obtain ⟨q0, q1, q2, q3, q4, q5, q6, q7, q8, q9, q10, q11, q12⟩ := h.cells o ho
  have hsl := hs.symbols
  cases h1 : hasF d.constants x
  all_goals
    go_enter Tryz.func103, Tryz.ntmps103
    go_wp2_with (first | (go_at_call 118; refine (isConstant_any b t o pre post d H x _ (by exact h) ho hs.constants).mono ?_; rintro e w1 ⟨rfl, rfl⟩))
    go_ret
    exact ⟨ret_int (by simp [checkTypecodeF, h1]), rfl⟩

set_option maxHeartbeats 1000000 in
theorem checkFloating_any (b t o : Nat) (pre post : List Value) (d : Db) (H : Nat → Hd) (x : ByteArray) (w : World) (h : DbIs w b t pre post d H) (ho : pre.length = o) (hs : Small d 1073741824) :
    Calls Tryz.prog 104 #[.pointer (some ⟨b, o, none⟩), .string x] w fun e w' => e = .returned (.int .i64 (checkFloatingF d x)) ∧ w' = w := by
  obtain ⟨q0, q1, q2, q3, q4, q5, q6, q7, q8, q9, q10, q11, q12⟩ := h.cells o ho
  have hsl := hs.symbols
  by_cases h0 : 1 < d.symbols.length
  · go_enter Tryz.func104, Tryz.ntmps104
    go_wp2_with (first | (go_at_call 117; refine (isActive_any b t o pre post d H x _ (by exact h) ho hs.active).mono ?_; rintro e w1 ⟨rfl, rfl⟩) | (go_at_call 119; refine (isTyped_any b t o pre post d H x _ (by exact h) ho hs.typed).mono ?_; rintro e w1 ⟨rfl, rfl⟩))
    go_ret
    exact ⟨ret_int (by simp [checkFloatingF, h0]), rfl⟩
  · cases h1 : hasF d.active x <;> cases h2 : hasF d.typed x
    all_goals
      go_enter Tryz.func104, Tryz.ntmps104
      go_wp2_with (first | (go_at_call 117; refine (isActive_any b t o pre post d H x _ (by exact h) ho hs.active).mono ?_; rintro e w1 ⟨rfl, rfl⟩) | (go_at_call 119; refine (isTyped_any b t o pre post d H x _ (by exact h) ho hs.typed).mono ?_; rintro e w1 ⟨rfl, rfl⟩))
      go_ret
      exact ⟨ret_int (by simp [checkFloatingF, h0, h1, h2]), rfl⟩

set_option maxHeartbeats 1000000 in
theorem checkExpression_any (b t o : Nat) (pre post : List Value) (d : Db) (H : Nat → Hd) (x : ByteArray) (w : World) (h : DbIs w b t pre post d H) (ho : pre.length = o) (hs : Small d 1073741824) :
    Calls Tryz.prog 105 #[.pointer (some ⟨b, o, none⟩), .string x] w fun e w' => e = .returned (.int .i64 (checkExpressionF d x)) ∧ w' = w := by
  obtain ⟨q0, q1, q2, q3, q4, q5, q6, q7, q8, q9, q10, q11, q12⟩ := h.cells o ho
  have hsl := hs.symbols
  cases h0 : hasF d.constants x
  · cases h1 : hasF d.active x <;> cases h2 : hasF d.typed x
    all_goals
      go_enter Tryz.func105, Tryz.ntmps105
      go_wp2_with (first | (go_at_call 118; refine (isConstant_any b t o pre post d H x _ (by exact h) ho hs.constants).mono ?_; rintro e w1 ⟨rfl, rfl⟩) | (go_at_call 117; refine (isActive_any b t o pre post d H x _ (by exact h) ho hs.active).mono ?_; rintro e w1 ⟨rfl, rfl⟩) | (go_at_call 119; refine (isTyped_any b t o pre post d H x _ (by exact h) ho hs.typed).mono ?_; rintro e w1 ⟨rfl, rfl⟩))
      go_ret
      exact ⟨ret_int (by simp [checkExpressionF, h0, h1, h2]), rfl⟩
  · go_enter Tryz.func105, Tryz.ntmps105
    go_wp2_with (first | (go_at_call 118; refine (isConstant_any b t o pre post d H x _ (by exact h) ho hs.constants).mono ?_; rintro e w1 ⟨rfl, rfl⟩) | (go_at_call 117; refine (isActive_any b t o pre post d H x _ (by exact h) ho hs.active).mono ?_; rintro e w1 ⟨rfl, rfl⟩) | (go_at_call 119; refine (isTyped_any b t o pre post d H x _ (by exact h) ho hs.typed).mono ?_; rintro e w1 ⟨rfl, rfl⟩))
    go_ret
    exact ⟨ret_int (by simp [checkExpressionF, h0]), rfl⟩

set_option maxHeartbeats 1000000 in
theorem checkSymbol_any (b t o : Nat) (pre post : List Value) (d : Db) (H : Nat → Hd) (x : ByteArray) (w : World) (h : DbIs w b t pre post d H) (ho : pre.length = o) (hs : Small d 1073741824) :
    Calls Tryz.prog 83 #[.pointer (some ⟨b, o, none⟩), .string x] w fun e w' => e = .returned (.int .i64 (checkSymbolF d x)) ∧ w' = w := by
  obtain ⟨q0, q1, q2, q3, q4, q5, q6, q7, q8, q9, q10, q11, q12⟩ := h.cells o ho
  have hsl := hs.symbols
  cases k2 : (d.kind == 7)
  · cases k3 : (d.kind == 8)
    · cases k4 : (d.kind == 1)
      · by_cases hz : d.symbols.length = 0
        · have HT : Hid (checkSymbolF d x = checkTypecodeF d x) := by show checkSymbolF d x = _; simp only [checkSymbolF, k2, k3, k4, hz]; simp
          have hz1 : ((d.symbols.length : Int) == 0) = true := by simp [hz]
          clear hz
          go_enter Tryz.func83, Tryz.ntmps83
          go_wp2_with (first | (go_at_call 103; refine (checkTypecode_any b t o pre post d H x _ (by exact h) ho hs).mono ?_; rintro e w1 ⟨rfl, rfl⟩))
          go_ret
          exact ⟨ret_int (by rw [HT.out]), rfl⟩
        · have hz1 : ((d.symbols.length : Int) == 0) = false := beq_eq_false_iff_ne.2 (by omega)
          cases k5 : (d.kind == 2)
          · have HT : Hid (checkSymbolF d x = checkExpressionF d x) := by show checkSymbolF d x = _; simp [checkSymbolF, k2, k3, k4, k5, hz]
            clear hz
            go_enter Tryz.func83, Tryz.ntmps83
            go_wp2_with (first | (go_at_call 105; refine (checkExpression_any b t o pre post d H x _ (by exact h) ho hs).mono ?_; rintro e w1 ⟨rfl, rfl⟩))
            go_ret
            exact ⟨ret_int (by rw [HT.out]), rfl⟩
          · have HT : Hid (checkSymbolF d x = checkFloatingF d x) := by show checkSymbolF d x = _; simp [checkSymbolF, k2, k3, k4, k5, hz]
            clear hz
            go_enter Tryz.func83, Tryz.ntmps83
            go_wp2_with (first | (go_at_call 104; refine (checkFloating_any b t o pre post d H x _ (by exact h) ho hs).mono ?_; rintro e w1 ⟨rfl, rfl⟩))
            go_ret
            exact ⟨ret_int (by rw [HT.out]), rfl⟩
      · have HT : Hid (checkSymbolF d x = checkDisjointF d x) := by show checkSymbolF d x = _; simp [checkSymbolF, k2, k3, k4]
        go_enter Tryz.func83, Tryz.ntmps83
        go_wp2_with (first | (go_at_call 102; refine (checkDisjoint_any b t o pre post d H x _ (by exact h) ho hs).mono ?_; rintro e w1 ⟨rfl, rfl⟩))
        go_ret
        exact ⟨ret_int (by rw [HT.out]), rfl⟩
    · cases h1 : hasF d.symbols x <;> cases h2 : isTakenVF d x
      all_goals
        go_enter Tryz.func83, Tryz.ntmps83
        go_wp2_with (first | (go_at_call 99; refine (has_any (H 8) d.symbols x _ (by exact h.own 8) hs.symbols).mono ?_; rintro e w1 ⟨rfl, rfl⟩) | (go_at_call 101; refine (isTakenV_any b t o pre post d H x _ (by exact h) ho hs).mono ?_; rintro e w1 ⟨rfl, rfl⟩))
        go_ret
        exact ⟨ret_int (by simp [checkSymbolF, k2, k3, h1, h2]), rfl⟩
  · cases h1 : hasF d.symbols x <;> cases h2 : isTakenF d x
    all_goals
      go_enter Tryz.func83, Tryz.ntmps83
      go_wp2_with (first | (go_at_call 99; refine (has_any (H 8) d.symbols x _ (by exact h.own 8) hs.symbols).mono ?_; rintro e w1 ⟨rfl, rfl⟩) | (go_at_call 100; refine (isTaken_any b t o pre post d H x _ (by exact h) ho hs).mono ?_; rintro e w1 ⟨rfl, rfl⟩))
      go_ret
      exact ⟨ret_int (by simp [checkSymbolF, k2, h1, h2]), rfl⟩

end Go.Proofs.YtkancbaldeeijaaGreat
