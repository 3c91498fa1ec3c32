/- Our texts: Db6, Db7, Db8, Db9, Db10. -/
import Derived.Test.YtcipkfhpcbddiaaGreatG05
/- Package statements: a block ends. -/
namespace Go.Proofs.YtcipkfhpcbddiaaGreat
open Go.RowKit

theorem pairs_length (l : List (Nat × Nat)) : (pairs l).length = l.length * 2 := by
  induction l with
  | nil => rfl
  | cons a r ih => simp only [pairs, List.flatMap_cons, List.length_append, List.length_cons, List.length_nil] at *; omega
theorem pairs_last (l : List (Nat × Nat)) (x : Nat × Nat) : (pairs (l ++ [x]))[l.length * 2]? = some (.int .i64 x.1) ∧ (pairs (l ++ [x]))[l.length * 2 + 1]? = some (.int .i64 x.2) := by
  rw [pairs_snoc]
  have := pairs_length l
  constructor
  · rw [List.getElem?_append_right (by omega), this]; simp
  · rw [List.getElem?_append_right (by omega), this]; simp

theorem Owns.pop {w : World} {h : Hd} {l : List (Nat × Nat)} {x : Nat × Nat} (o : Owns w h (rowB (l ++ [x]))) : Owns w h (rowB l) := by
  rcases o.ways with ⟨e0, h0, _⟩ | ⟨g, cur, e1, e2, e3, e4, e5, e6⟩
  · have h0' : (l ++ [x]).length = 0 := h0
    simp at h0'
  · obtain ⟨ao, cap⟩ := h
    simp only at e1 e3 e4 e5
    subst e1
    have e3' : (l ++ [x]).length ≤ cap := e3
    simp at e3'
    refine ⟨by simp only [rowB]; exact pairs_length l, Or.inr ⟨g, cap, cur, rfl, Nat.zero_le _, e2, ?_, e4, e5, ?_⟩⟩
    · simp only [rowB]; omega
    · have e6' : cur.toList.take ((l ++ [x]).length * 2) = pairs (l ++ [x]) := e6
      simp only [rowB]
      have e7 : pairs l = (pairs (l ++ [x])).take (l.length * 2) := by rw [pairs_snoc, List.take_left' (pairs_length l)]
      rw [e7, ← e6', List.take_take]
      congr 1
      simp

def endBlockF (d : Db) (bl : List (Nat × Nat)) (x : Nat × Nat) : Db := { d with blocks := bl, active := d.active.take x.1, typed := d.typed.take x.2 }

theorem take_len (l : List ByteArray) (c : Nat) : (l.take c).length = if c ≤ l.length then c else l.length := by
  rw [List.length_take]; split <;> omega
theorem Owns.taken {w : World} {h : Hd} {l : List ByteArray} (o : Owns w h (rowS l)) (c : Nat) : Owns w h (rowS (l.take c)) := by
  by_cases hc : c ≤ l.length
  · exact o.cut c hc
  · rw [List.take_of_length_le (by omega)]; exact o

theorem firstm_any (hd : Hd) (l : List ByteArray) (c m : Nat) (w : World) (hm : Hid ((l.take c).length = m)) (ho : Owns w hd (rowS l)) (hc : c ≤ 1073741824) :
    Calls Tryz.prog 127 #[.slice hd.ao l.length hd.cap, .int .i64 c] w fun e w' => e = .returned (.slice hd.ao m hd.cap) ∧ w' = w := by
  have e : m = if c ≤ l.length then c else l.length := by rw [← hm.out, take_len]
  rw [e]
  exact first_any hd l c w ho hc

theorem end_after (i cell : Nat) {w : World} {b t o : Nat} {pre post : List Value} {d d' : Db} {H : Nat → Hd} (h : DbIs w b t pre post d H) (ho : pre.length = o) (hi : i < 10) (ow : Owns w (H i) (rowsOf d' H i))
    (hrow : ∀ j, j ≠ i → rowsOf d' H j = rowsOf d H j) (u : Value) (hc : cell < 13) (hl : (dbList d H).set cell u = dbList d' (upd H i (H i))) :
    DbIs (w.setCell ⟨b, o + cell, none⟩ u) b t pre post d' H ∧ Turned b w H (w.setCell ⟨b, o + cell, none⟩ u) H := by
  have hu := upd_self H i
  have := h.put (d' := d') o cell ho i hi (H i) ow (World.grownBy.refl _ _) (Or.inr (Or.inl rfl)) hrow u hc hl
  rw [hu] at this
  exact this

set_option maxHeartbeats 1600000 in
set_option maxRecDepth 100000 in
theorem endBlock_any (b t o : Nat) (pre post : List Value) (d : Db) (H : Nat → Hd) (bl : List (Nat × Nat)) (x : Nat × Nat) (w : World) (h : DbIs w b t pre post d H) (ho : pre.length = o) (hbl : d.blocks = bl ++ [x])
    (hs : Small d 1073741824) (hx : x.1 ≤ 1073741824 ∧ x.2 ≤ 1073741824) :
    Calls Tryz.prog 111 #[.pointer (some ⟨b, o, none⟩)] w fun e w' => e = .returned (.tuple #[]) ∧ DbIs w' b t pre post (endBlockF d bl x) H ∧ Turned b w H w' H := by
  obtain ⟨q0, q1, q2, q3, q4, q5, q6, q7, q8, q9, q10, q11, q12⟩ := h.cells o ho
  obtain ⟨x1, x2⟩ := x
  simp only at hx
  have hfr := h.free
  have hbw := h.lt
  have hw5 := h.own 5
  have hw5' : Owns w (H 5) (rowB (bl ++ [(x1, x2)])) := by have := hw5; simp only [rowsOf, hbl] at this; exact this
  have hlen := hs.blocks
  rw [hbl] at hlen q5
  simp only [List.length_append, List.length_cons, List.length_nil] at hlen q5
  rcases hw5'.ways with ⟨e0, h0, _⟩ | ⟨g, cur, e1, e2, e3, e4, e5, e6⟩
  · have h0' : (bl ++ [(x1, x2)]).length = 0 := h0
    simp at h0'
  · have p1 := hw5'.cell e1 (bl.length * 2) _ (pairs_last bl (x1, x2)).1
    have p2 := hw5'.cell e1 (bl.length * 2 + 1) _ (pairs_last bl (x1, x2)).2
    have hcap : bl.length + 1 ≤ (H 5).cap := by have : (bl ++ [(x1, x2)]).length ≤ (H 5).cap := e3; simpa using this
    have hcap2 : (H 5).cap ≤ 9223372036854775807 := by unfold maxLen at e4; exact e4
    have hg := lt_of_get e2
    have P1 := end_after 5 5 (d' := { d with blocks := bl }) h ho (by omega) hw5'.pop (rows_blocks d H bl) (.slice (some ⟨g, 0, none⟩) bl.length (H 5).cap) (by omega) (by simp [dbList, upd, e1])
    obtain ⟨w2, hw2⟩ : ∃ w2, w2 = (w.setCell ⟨b, o + 5, none⟩ (.slice (some ⟨g, 0, none⟩) bl.length (H 5).cap)).alloc (.cells #[.int .i64 x1, .int .i64 x2] 188) := ⟨_, rfl⟩
    have D2 : DbIs w2 b t pre post { d with blocks := bl } H := by rw [hw2]; exact P1.1.still ((Kept.refl [] _).alloc _)
    have T2 : Turned b w H w2 H := by rw [hw2]; exact P1.2.still ((Kept.refl [] _).alloc _)
    have B2 : w2.heap[w.heap.size]? = some (.cells #[.int .i64 x1, .int .i64 x2] 188 (0, 0)) := by
      rw [hw2]
      have := heap_alloc_new (w.setCell ⟨b, o + 5, none⟩ (.slice (some ⟨g, 0, none⟩) bl.length (H 5).cap)) (.cells #[.int .i64 x1, .int .i64 x2] 188)
      simpa [World.setCell] using this
    have HW : Hid ((w.setCell ⟨b, o + 5, none⟩ (.slice (some ⟨g, 0, none⟩) bl.length (H 5).cap)).alloc (.cells #[.int .i64 x1, .int .i64 x2] 188) = w2) := hw2.symm
    have HL2 := hs.active
    have HL3 := hs.typed
    rw [e1] at q5
    simp only at p1 p2
    clear hw5 hw5' e3 e4 e5 e6 e2 h P1 hw2
    go_enter Tryz.func111, Tryz.ntmps111
    go_upto_region 4 with fail
    rw [HW.out]
    have c0 : w2.cell? ⟨w.heap.size, 0, none⟩ = some (.int .i64 x1) := by rw [cell_of B2]; rfl
    have c1 : w2.cell? ⟨w.heap.size, 1, none⟩ = some (.int .i64 x2) := by rw [cell_of B2]; rfl
    have hne : w.heap.size ≠ b := by omega
    have hB2 := lt_of_get B2
    clear HW q0 q1 q2 q3 q4 q5 q6 q7 q8 q9 q10 q11 q12 p1 p2 hfr hg
    obtain ⟨q0, q1, q2, q3, q4, q5, q6, q7, q8, q9, q10, q11, q12⟩ := D2.cells o ho
    have hfr := D2.free
    obtain ⟨m1, hm1⟩ : ∃ m, Hid ((d.active.take x1).length = m) := ⟨_, rfl⟩
    obtain ⟨m2, hm2⟩ : ∃ m, Hid ((d.typed.take x2).length = m) := ⟨_, rfl⟩
    have P3 := end_after 3 3 (d' := { d with blocks := bl, active := d.active.take x1 }) D2 ho (by omega) ((D2.own 3).taken x1) (rows_active { d with blocks := bl } H (d.active.take x1)) (.slice (H 3).ao m1 (H 3).cap) (by omega) (by simp only [dbList, upd_same, ← hm1.out]; rfl)
    obtain ⟨w3, hw3⟩ : ∃ w3, w3 = (w2.setCell ⟨b, o + 3, none⟩ (.slice (H 3).ao m1 (H 3).cap)).drew := ⟨_, rfl⟩
    have D3 : Hid (DbIs w3 b t pre post { d with blocks := bl, active := d.active.take x1 } H) := by rw [hw3]; exact P3.1.still (Kept.refl [] _).drew
    have T3 : Hid (Turned b w H w3 H) := by rw [hw3]; exact T2.trans (P3.2.still (Kept.refl [] _).drew)
    have B3 : Hid (w3.heap[w.heap.size]? = some (.cells #[.int .i64 x1, .int .i64 x2] 188 (0, 0))) := by
      show w3.heap[w.heap.size]? = _
      rw [hw3]
      exact (Below.heap_setCell w2 ⟨b, o + 3, none⟩ (.slice (H 3).ao m1 (H 3).cap) w.heap.size hne).trans B2
    have HW3 : Hid ((w2.setCell ⟨b, o + 3, none⟩ (.slice (H 3).ao m1 (H 3).cap)).drew = w3) := hw3.symm
    clear hw3 P3
    go_region_with (go_at_call 127; refine (firstm_any (H 3) d.active x1 m1 _ hm1 (by exact D2.own 3) hx.1).mono ?_; rintro e w3 ⟨rfl, rfl⟩)
    all_goals go_upto_region 5 with fail
    all_goals rw [HW3.out]
    all_goals
      clear HW3 q0 q1 q2 q3 q4 q5 q6 q7 q8 q9 q10 q11 q12 hfr D2 T2 B2 c0 c1 hB2
      have c0 : w3.cell? ⟨w.heap.size, 0, none⟩ = some (.int .i64 x1) := by rw [cell_of B3.out]; rfl
      have c1 : w3.cell? ⟨w.heap.size, 1, none⟩ = some (.int .i64 x2) := by rw [cell_of B3.out]; rfl
      obtain ⟨q0, q1, q2, q3, q4, q5, q6, q7, q8, q9, q10, q11, q12⟩ := D3.out.cells o ho
      have hfr := D3.out.free
      have P4 := end_after 4 4 (d' := endBlockF d bl (x1, x2)) D3.out ho (by omega) ((D3.out.own 4).taken x2) (rows_typed { d with blocks := bl, active := d.active.take x1 } H (d.typed.take x2)) (.slice (H 4).ao m2 (H 4).cap) (by omega) (by simp only [dbList, endBlockF, upd_same, ← hm2.out]; rfl)
      have HP4 := (show Hid _ from P4)
      clear P4
      go_region_with (go_at_call 127; refine (firstm_any (H 4) d.typed x2 m2 _ hm2 (by exact D3.out.own 4) hx.2).mono ?_; rintro e w3 ⟨rfl, rfl⟩)
      all_goals go_wp2
      all_goals go_end0
      all_goals exact ⟨rfl, HP4.out.1.still (Kept.refl [] _).drew, T3.out.trans (HP4.out.2.still (Kept.refl [] _).drew)⟩

end Go.Proofs.YtcipkfhpcbddiaaGreat

/- Package record: blocks begin and end; a statement more. -/
namespace Go.Proofs.YtcipkfhpcbddiaaGreat
open Go.RowKit

/-- Rows of elements of n cells each. -/
theorem flat_len {α : Type} (f : α → List Value) (n : Nat) (hf : ∀ a, (f a).length = n) (l : List α) : (l.flatMap f).length = l.length * n := by
  induction l with
  | nil => simp
  | cons a l ih => simp only [List.flatMap_cons, List.length_append, hf, ih, List.length_cons]; rw [Nat.add_mul]; omega
theorem flat_get {α : Type} (f : α → List Value) (n : Nat) (hf : ∀ a, (f a).length = n) (l : List α) (i j : Nat) (hi : i < l.length) (hj : j < n) : (l.flatMap f)[i * n + j]? = (f l[i])[j]? := by
  induction l generalizing i with
  | nil => simp at hi
  | cons a l ih =>
    rw [List.flatMap_cons]
    cases i with
    | zero => rw [List.getElem?_append_left (by rw [hf]; omega)]; simp
    | succ i =>
      have e : (i + 1) * n + j = n + (i * n + j) := by rw [Nat.add_mul]; omega
      rw [List.getElem?_append_right (by rw [hf, e]; omega), hf, e, show n + (i * n + j) - n = i * n + j by omega]
      exact ih i (by simpa using hi)
theorem flat_set {α : Type} (f : α → List Value) (n : Nat) (hf : ∀ a, (f a).length = n) (l : List α) (i j : Nat) (hi : i < l.length) (hj : j < n) (a' : α) (v : Value) (ha : f a' = (f l[i]).set j v) :
    (l.flatMap f).set (i * n + j) v = (l.set i a').flatMap f := by
  induction l generalizing i with
  | nil => simp at hi
  | cons a l ih =>
    cases i with
    | zero =>
      rw [List.set_cons_zero, List.flatMap_cons, List.flatMap_cons, List.set_append_left _ _ (by rw [hf]; omega), ha]
      simp
    | succ i =>
      have e : (i + 1) * n + j = n + (i * n + j) := by rw [Nat.add_mul]; omega
      rw [List.set_cons_succ, List.flatMap_cons, List.flatMap_cons, List.set_append_right _ _ (by rw [hf, e]; omega), hf, e, show n + (i * n + j) - n = i * n + j by omega]
      rw [ih i (by simpa using hi) (by simpa using ha)]

theorem stV_len (s : St) (a b : Hd) : (stV s a b).length = 8 := rfl
theorem wordV_len (p : ByteArray × Pl) : (wordV p).length = 4 := rfl
theorem stsV_len (l : List St) (H : Nat → Hd) : (stsV l H).length = l.length * 8 := by
  unfold stsV; rw [flat_len _ 8 (fun _ => rfl)]; simp
theorem wordsV_len (l : List (ByteArray × Pl)) : (wordsV l).length = l.length * 4 := flat_len _ 4 (fun _ => rfl) l
theorem stsV_at (l : List St) (H : Nat → Hd) (i : Nat) (hi : i < l.length) (j : Nat) (hj : j < 8) : (stsV l H)[i * 8 + j]? = (stV l[i] (H (10 + 2 * i)) (H (11 + 2 * i)))[j]? := by
  unfold stsV; rw [flat_get _ 8 (fun _ => rfl) _ i j (by simpa using hi) hj]; simp
theorem wordsV_at (l : List (ByteArray × Pl)) (i : Nat) (hi : i < l.length) (j : Nat) (hj : j < 4) : (wordsV l)[i * 4 + j]? = (wordV l[i])[j]? := flat_get _ 4 (fun _ => rfl) l i j hi hj
theorem stsV_snoc (l : List St) (s : St) (H : Nat → Hd) : stsV (l ++ [s]) H = stsV l H ++ stV s (H (10 + 2 * l.length)) (H (11 + 2 * l.length)) := by
  unfold stsV; rw [List.zipIdx_append]; simp
theorem zipIdx_set (l : List St) (i : Nat) (s : St) : (l.set i s).zipIdx = l.zipIdx.set i (s, i) := by
  apply List.ext_getElem?
  intro j
  simp only [List.getElem?_zipIdx, List.getElem?_set, List.length_zipIdx]
  by_cases e : i = j
  · subst e
    by_cases hi : i < l.length <;> simp [hi]
  · simp [e]
theorem stsV_til (l : List St) (H : Nat → Hd) (i : Nat) (hi : i < l.length) (N : Nat) : (stsV l H).set (i * 8 + 7) (.int .i64 N) = stsV (l.set i { l[i] with til := N }) H := by
  unfold stsV
  rw [zipIdx_set]
  exact flat_set _ 8 (fun _ => rfl) _ i 7 (by simpa using hi) (by omega) _ _ (by simp [stV])

theorem strs_len (l : List ByteArray) : (strs l).length = l.length * 1 := by simp [strs]
theorem nums_snoc (l : List Nat) (x : Nat) : nums (l ++ [x]) = nums l ++ [.int .i64 x] := by simp [nums]
theorem rowN_snoc (l : List Nat) (x : Nat) : (⟨(rowN l).e, (rowN l).size, (rowN l).n + 1, (rowN l).xs ++ [.int .i64 x]⟩ : Row) = rowN (l ++ [x]) := by simp [rowN, nums_snoc]
theorem infoN : (Tryz.prog.info? 3).map (fun i => (i.zero, i.size, i.bytes)) = some (some (.int .i64 0), 1, 8) := by kernel_rfl

def isA (k : Int) : Bool := k == 4 || k == 5

theorem isAssertion_any (k : Int) (a1 a2 a3 a4 a5 a6 a7 : Value) (w : World) :
    Calls Tryz.prog 65 #[.agg #[.int .i64 k, a1, a2, a3, a4, a5, a6, a7]] w fun e w' => e = .returned (.bool (isA k)) ∧ Kept [] w w' := by
  cases h4 : (k == 4)
  · have HT : Hid (isA k = (k == 5)) := by show isA k = _; simp only [isA, h4, Bool.false_or]
    go_enter Tryz.func65, Tryz.ntmps65
    go_wp2
    go_ret
    exact ⟨ret_bool (by rw [HT.out]), (Kept.refl _ _).alloc _⟩
  · have HT : Hid (isA k = true) := by show isA k = _; simp only [isA, h4, Bool.true_or]
    go_enter Tryz.func65, Tryz.ntmps65
    go_wp2
    go_ret
    exact ⟨ret_bool (by rw [HT.out]), (Kept.refl _ _).alloc _⟩

set_option maxHeartbeats 800000 in
set_option maxRecDepth 100000 in
theorem recBegin_any (b t o : Nat) (pre post : List Value) (d : Db) (H : Nat → Hd) (w : World) (h : DbIs w b t pre post d H) (ho : pre.length = o) (hs : Small d 100000000) :
    Calls Tryz.prog 110 #[.pointer (some ⟨b, o + 6, none⟩)] w fun e w' => e = .returned (.tuple #[]) ∧ ∃ H', DbIs w' b t pre post { d with rbl := d.rbl ++ [d.sts.length] } H' ∧ Turned b w H w' H' := by
  obtain ⟨i0, hi, hz0, hz1, hz2⟩ := info_parts infoN
  obtain ⟨q0, q1, q2, q3, q4, q5, q6, q7, q8, q9, q10, q11, q12⟩ := h.cells o ho
  clear q0 q1 q2 q3 q4 q5 q8 q9 q10 q11 q12
  have hfr := h.free
  have hbw := h.lt
  have hl1 := hs.rbl
  have hD : Hid (DbIs (w.alloc (.cells #[.int .i64 d.sts.length] 3)).drew b t pre post d H) := h.still ((Kept.refl [] w).alloc _).drew
  have s2 : Hid (∀ j u, ([.int .i64 d.sts.length] : List Value)[j]? = some u → (w.alloc (.cells #[.int .i64 d.sts.length] 3)).drew.cell? ((⟨w.heap.size, 0, none⟩ : Addr).add j) = some u) := by
    intro j u hj
    have hk : (w.alloc (.cells #[.int .i64 d.sts.length] 3)).drew.heap[w.heap.size]? = some (.cells #[.int .i64 d.sts.length] 3 (0, 0)) := heap_alloc_new _ _
    rw [addr_add, cell_of hk]; simpa using hj
  have s3 : Hid (∀ u ∈ ([.int .i64 d.sts.length] : List Value), u.oneCell' = true) := by intro u hu; simp at hu; subst hu; rfl
  have s4 : Hid ((rowN d.rbl).n + 1 ≤ maxLen) := by show _ ≤ _; simp only [rowN]; unfold maxLen; omega
  have s5 : Hid (((rowN d.rbl).n + 1) * 8 ≤ 140737488355328) := by show _ ≤ _; simp only [rowN]; omega
  clear h
  go_enter Tryz.func110, Tryz.ntmps110
  go_wp2_with fail
  go_region_law (refine step_append_row rfl (.tmp 6) (.tmp 12) 45 rfl i0 (.int .i64 0) 8 (H 7) (rowN d.rbl) Tryz.underlying45 hi hz0 hz1 hz2 rfl Nat.one_pos (by simp [Act.eval] <;> rfl) (hD.out.own 7) ⟨w.heap.size, 0, none⟩ 1 1 [.int .i64 d.sts.length] (by simp [Act.eval]) rfl s2.out s3.out Nat.one_pos s4.out s5.out ?_; intro g cap' w1 hw1 hgr hfresh; obtain ⟨k5, f5, HP⟩ := hD.out.app (d' := { d with rbl := d.rbl ++ [d.sts.length] }) o 7 ho 7 (by omega) g cap' ((rowN d.rbl).n + 1) _ hw1 (rowN_snoc d.rbl _) hgr (by simpa using hfresh) (rows_rbl d H _) (by omega) _ rfl (by simp [dbList, upd, rowN]); clear hw1 hgr hfresh)
  all_goals go_wp2
  all_goals go_end0
  all_goals exact ⟨rfl, _, HP.out.1, HP.out.2.first ((Kept.refl [] w).alloc _).drew⟩

end Go.Proofs.YtcipkfhpcbddiaaGreat

/- Package record: a block ends. -/
namespace Go.Proofs.YtcipkfhpcbddiaaGreat
open Go.RowKit

def endSt (N : Nat) (s : St) : St := if s.til = 0 ∧ isA s.kind = false then { s with til := N } else s
/-- The statements from b on, up to n, have met their block's end. -/
def endTo (l : List St) (b n : Nat) : List St := l.mapIdx (fun i s => if b ≤ i ∧ i < n then endSt l.length s else s)
def endSts (l : List St) (b : Nat) : List St := endTo l b l.length
theorem endTo_len (l : List St) (b n : Nat) : (endTo l b n).length = l.length := by simp [endTo]
theorem endTo_get (l : List St) (b n i : Nat) : (endTo l b n)[i]? = l[i]?.map (fun s => if b ≤ i ∧ i < n then endSt l.length s else s) := by simp [endTo]
theorem endTo_start (l : List St) (b : Nat) : endTo l b b = l := by
  apply List.ext_getElem?
  intro i
  rw [endTo_get]
  have : ¬ (b ≤ i ∧ i < b) := by omega
  simp [this]
theorem endTo_step (l : List St) (b n : Nat) (hb : b ≤ n) (hn : n < l.length) : endTo l b (n + 1) = (endTo l b n).set n (endSt l.length l[n]) := by
  apply List.ext_getElem?
  intro i
  rw [List.getElem?_set, endTo_get, endTo_get, endTo_len]
  by_cases e : n = i
  · subst e
    have h1 : b ≤ n ∧ n < n + 1 := ⟨hb, by omega⟩
    simp [hn, h1]
  · have : (b ≤ i ∧ i < n + 1) ↔ (b ≤ i ∧ i < n) := by omega
    simp [e, this]
theorem endTo_same (l : List St) (b n : Nat) (hb : b ≤ n) (hn : n < l.length) (h : endSt l.length l[n] = l[n]) : endTo l b (n + 1) = endTo l b n := by
  rw [endTo_step l b n hb hn, h]
  apply List.ext_getElem?
  intro i
  rw [List.getElem?_set, endTo_len]
  by_cases e : n = i
  · subst e
    rw [endTo_get]
    simp [hn]
  · simp [e]
theorem endTo_at (l : List St) (b n : Nat) (hn : n < l.length) : (endTo l b n)[n]? = some l[n] := by
  rw [endTo_get]; simp [hn]

theorem symsAt_til (l : List St) (n : Nat) (hn : n < l.length) (N : Nat) (i : Nat) : symsAt (l.set n { l[n] with til := N }) i = symsAt l i ∧ prfAt (l.set n { l[n] with til := N }) i = prfAt l i := by
  unfold symsAt prfAt
  rw [List.getElem?_set]
  by_cases e : n = i
  · subst e; simp [hn]
  · simp [e]

/-- A statement's end has been set. -/
theorem DbIs.til {w : World} {b t : Nat} {pre post : List Value} {d : Db} {H : Nat → Hd} (h : DbIs w b t pre post d H) (g : Nat) (hg : (H 6).ao = some ⟨g, 0, none⟩) (n : Nat) (hn : n < d.sts.length) (N : Nat) :
    DbIs (w.setCell ⟨g, n * 8 + 7, none⟩ (.int .i64 N)) b t pre post { d with sts := d.sts.set n { d.sts[n] with til := N } } H ∧ Turned b w H (w.setCell ⟨g, n * 8 + 7, none⟩ (.int .i64 N)) H := by
  have hb6 : (H 6).blk = some g := by unfold Hd.blk; rw [hg]; rfl
  have hgb : g ≠ b := by rintro rfl; exact h.off 6 hb6
  refine ⟨⟨?_, ?_, h.apart, h.off⟩, (KeptP.refl _ _).setCell (Or.inl (Or.inr ⟨6, hb6⟩)) _, fun _ hk => Or.inl hk⟩
  · rw [Below.heap_setCell _ _ _ _ (fun e => hgb e.symm), h.blk]
    simp [dbList]
  · intro i
    by_cases e : i = 6
    · subst e
      have o6 : Owns w (H 6) (rowT d.sts H) := h.own 6
      show Owns _ (H 6) (rowT (d.sts.set n { d.sts[n] with til := N }) H)
      rcases o6.ways with ⟨e0, h0, _⟩ | ⟨g', cur, e1, e2, e3, e4, e5, e6⟩
      · have : d.sts.length = 0 := h0
        omega
      · have : g' = g := by rw [hg] at e1; injection e1 with e1; injection e1 with e1; exact e1.symm
        subst this
        refine ⟨by simp only [rowT]; rw [stsV_len], Or.inr ⟨g', (H 6).cap, cur.setIfInBounds (n * 8 + 7) (.int .i64 N), ?_, Nat.zero_le _, block_setCell e2 _ _, ?_, e4, ?_, ?_⟩⟩
        · simp [rowT, hg]
        · simpa [rowT] using e3
        · simpa [rowT] using e5
        · have e6' : cur.toList.take (d.sts.length * 8) = stsV d.sts H := e6
          simp only [rowT, List.length_set, Array.toList_setIfInBounds, List.take_set, e6']
          exact stsV_til d.sts H n hn N
    · have hr : rowsOf { d with sts := d.sts.set n { d.sts[n] with til := N } } H i = rowsOf d H i := by
        match i, e with
        | 0, _ => rfl
        | 1, _ => rfl
        | 2, _ => rfl
        | 3, _ => rfl
        | 4, _ => rfl
        | 5, _ => rfl
        | 6, e => exact absurd rfl e
        | 7, _ => rfl
        | 8, _ => rfl
        | 9, _ => rfl
        | m + 10, _ => simp only [rowsOf, inner, (symsAt_til d.sts n hn N (m / 2)).1, (symsAt_til d.sts n hn N (m / 2)).2]
      rw [hr]
      refine (h.own i).moved (fun k hk => Below.heap_setCell _ _ _ _ ?_)
      rintro rfl
      rcases h.apart i 6 e with a | a
      · rw [a] at hk; cases hk
      · exact a (hk.trans hb6.symm)

/-- The cells of a statement. -/
theorem DbIs.stmt {w : World} {b t : Nat} {pre post : List Value} {d : Db} {H : Nat → Hd} (h : DbIs w b t pre post d H) (g : Nat) (hg : (H 6).ao = some ⟨g, 0, none⟩) (n : Nat) (s : St) (hs : d.sts[n]? = some s) :
    w.cell? ⟨g, n * 8, none⟩ = some (.int .i64 s.kind) ∧ w.cell? ⟨g, n * 8 + 1, none⟩ = some (.string s.label) ∧ w.cell? ⟨g, n * 8 + 2, none⟩ = some (.slice (H (10 + 2 * n)).ao s.symbols.length (H (10 + 2 * n)).cap) ∧
    w.cell? ⟨g, n * 8 + 3, none⟩ = some (.slice (H (11 + 2 * n)).ao s.proof.length (H (11 + 2 * n)).cap) ∧ w.cell? ⟨g, n * 8 + 4, none⟩ = some (.string s.fin.file) ∧ w.cell? ⟨g, n * 8 + 5, none⟩ = some (.int .i64 s.fin.line) ∧
    w.cell? ⟨g, n * 8 + 6, none⟩ = some (.int .i64 s.fin.col) ∧ w.cell? ⟨g, n * 8 + 7, none⟩ = some (.int .i64 s.til) := by
  obtain ⟨hn, rfl⟩ := List.getElem?_eq_some_iff.1 hs
  have o6 : Owns w (H 6) (rowT d.sts H) := h.own 6
  have c := fun j (hj : j < 8) v (hv : (stV d.sts[n] (H (10 + 2 * n)) (H (11 + 2 * n)))[j]? = some v) => o6.cell hg (n * 8 + j) v ((stsV_at d.sts H n hn j hj).trans hv)
  exact ⟨c 0 (by omega) _ rfl, c 1 (by omega) _ rfl, c 2 (by omega) _ rfl, c 3 (by omega) _ rfl, c 4 (by omega) _ rfl, c 5 (by omega) _ rfl, c 6 (by omega) _ rfl, c 7 (by omega) _ rfl⟩

theorem nums_len (l : List Nat) : (nums l).length = l.length * 1 := by simp [nums]
theorem Owns.popN {w : World} {h : Hd} {l : List Nat} {x : Nat} (o : Owns w h (rowN (l ++ [x]))) : Owns w h (rowN l) := by
  rcases o.ways with ⟨e0, h0, _⟩ | ⟨g, cur, e1, e2, e3, e4, e5, e6⟩
  · have h0' : (l ++ [x]).length = 0 := h0
    simp at h0'
  · obtain ⟨ao, cap⟩ := h
    simp only at e1 e3 e4 e5
    subst e1
    have e3' : (l ++ [x]).length ≤ cap := e3
    simp at e3'
    refine ⟨by simp only [rowN]; exact nums_len l, Or.inr ⟨g, cap, cur, rfl, Nat.zero_le _, e2, ?_, e4, e5, ?_⟩⟩
    · simp only [rowN]; omega
    · have e6' : cur.toList.take ((l ++ [x]).length * 1) = nums (l ++ [x]) := e6
      simp only [rowN]
      have e7 : nums l = (nums (l ++ [x])).take (l.length * 1) := by rw [nums_snoc, List.take_left' (nums_len l)]
      rw [e7, ← e6', List.take_take]
      congr 1
      simp

set_option maxHeartbeats 2000000 in
set_option maxRecDepth 100000 in
theorem recEnd_any (b t o : Nat) (pre post : List Value) (d : Db) (H : Nat → Hd) (bl : List Nat) (x : Nat) (w : World) (h : DbIs w b t pre post d H) (ho : pre.length = o) (hbl : d.rbl = bl ++ [x]) (hs : Small d 100000000) (hx : x ≤ d.sts.length) :
    Calls Tryz.prog 112 #[.pointer (some ⟨b, o + 6, none⟩)] w fun e w' => e = .returned (.tuple #[]) ∧ DbIs w' b t pre post { d with rbl := bl, sts := endSts d.sts x } H ∧ Turned b w H w' H := by
  obtain ⟨q0, q1, q2, q3, q4, q5, q6, q7, q8, q9, q10, q11, q12⟩ := h.cells o ho
  clear q0 q1 q2 q3 q4 q5 q8 q9 q10 q11 q12
  have hfr := h.free
  have hbw := h.lt
  have hw7 : Owns w (H 7) (rowN (bl ++ [x])) := by have := h.own 7; simp only [rowsOf, hbl] at this; exact this
  have hlen := hs.rbl
  have hlen6 := hs.sts
  rw [hbl] at hlen q7
  simp only [List.length_append, List.length_cons, List.length_nil] at hlen q7
  rcases hw7.ways with ⟨e0, h0, _⟩ | ⟨g, cur, e1, e2, e3, e4, e5, e6⟩
  · have h0' : (bl ++ [x]).length = 0 := h0
    simp at h0'
  · have p1 := hw7.cell e1 bl.length (.int .i64 x) (by simp [rowN, nums])
    have hcap : bl.length + 1 ≤ (H 7).cap := by have : (bl ++ [x]).length ≤ (H 7).cap := e3; simpa using this
    have hcap2 : (H 7).cap ≤ 9223372036854775807 := by unfold maxLen at e4; exact e4
    have P1 := end_after 7 7 (d' := { d with rbl := bl }) h ho (by omega) hw7.popN (rows_rbl d H bl) (.slice (some ⟨g, 0, none⟩) bl.length (H 7).cap) (by omega) (by simp [dbList, upd, e1])
    rw [e1] at q7
    have HP := (show Hid _ from P1)
    clear hw7 e3 e4 e5 e6 e2 h P1
    go_enter Tryz.func112, Tryz.ntmps112
    go_wp2
    go_loopg [4] (d.sts.length - x) (fun g i wr => ∃ k : Nat, x ≤ k ∧ k ≤ d.sts.length ∧ g = d.sts.length - k ∧ i = .int .i64 k ∧ DbIs wr b t pre post { d with rbl := bl, sts := endTo d.sts x k } H ∧ Turned b w H wr H)
    case atStart => exact ⟨x, by omega, hx, rfl, rfl, by rw [endTo_start]; exact HP.out.1, HP.out.2⟩
    case round =>
      obtain ⟨k, hk1, hk2, hg, rfl, D, T⟩ := hrel
      clear HP q6 q7 p1 hfr
      obtain ⟨q0, q1, q2, q3, q4, q5, q6, q7, q8, q9, q10, q11, q12⟩ := D.cells o ho
      clear q0 q1 q2 q3 q4 q5 q7 q8 q9 q10 q11 q12
      have hfr := D.free
      simp only [endTo_len] at q6
      by_cases hlt : k < d.sts.length
      · have hat := endTo_at d.sts x k hlt
        have hw6 : Owns wr (H 6) (rowT (endTo d.sts x k) H) := D.own 6
        rcases hw6.ways with ⟨_, h0, _⟩ | ⟨g6, cur6, e6, e62, e63, -⟩
        · have : (endTo d.sts x k).length = 0 := h0
          rw [endTo_len] at this
          omega
        · obtain ⟨c0, c1, c2, c3, c4, c5, c6, c7⟩ := D.stmt g6 e6 k _ hat
          rw [e6] at q6
          have hfg := free_of e62
          have HS : Hid (∀ N : Nat, DbIs wr b t pre post { d with rbl := bl, sts := endTo d.sts x k } H → ∀ w1, Kept [] wr w1 → DbIs (w1.setCell ⟨g6, k * 8 + 7, none⟩ (.int .i64 N)) b t pre post { d with rbl := bl, sts := (endTo d.sts x k).set k { d.sts[k] with til := N } } H ∧ Turned b w H (w1.setCell ⟨g6, k * 8 + 7, none⟩ (.int .i64 N)) H) := by
            intro N D w1 hk1
            have D1 := D.still hk1
            have hn : k < (endTo d.sts x k).length := by rw [endTo_len]; exact hlt
            have P := D1.til g6 e6 k hn N
            have es : (endTo d.sts x k)[k] = d.sts[k] := by have := hat; rw [List.getElem?_eq_getElem hn] at this; simpa using this
            simp only [es] at P
            exact ⟨P.1, (T.still hk1).trans P.2⟩
          have H1 : Hid (endSt d.sts.length d.sts[k] = d.sts[k] → endTo d.sts x (k + 1) = endTo d.sts x k) := endTo_same d.sts x k hk1 hlt
          have H2 : Hid (endTo d.sts x (k + 1) = (endTo d.sts x k).set k (endSt d.sts.length d.sts[k])) := endTo_step d.sts x k hk1 hlt
          have hgw := lt_of_get e62
          have hcg := e62
          have hat2 := (show Hid _ from hat)
          have hcap6 : d.sts.length ≤ (H 6).cap := by have : (endTo d.sts x k).length ≤ (H 6).cap := e63; rw [endTo_len] at this; exact this
          clear hat hw6 e62 e63
          generalize d.sts[k] = s at *
          cases hz : ((s.til : Int) == 0)
          · have HT : Hid (endTo d.sts x (k + 1) = endTo d.sts x k) := H1.out (by
              have : ¬ s.til = 0 := by intro e; simp [e] at hz
              simp [endSt, this])
            clear HS H1 H2 hfg
            go_wp2
            go_roundg (d.sts.length - (k + 1))
            case measure => omega
            case rel => exact ⟨k + 1, by omega, by omega, rfl, by go_num, by rw [HT.out]; exact D, T⟩
          · have hz' : s.til = 0 := by have := eq_of_beq hz; omega
            cases ha : isA s.kind
            · have HT : Hid (endTo d.sts x (k + 1) = (endTo d.sts x k).set k { s with til := d.sts.length }) := by
                show _ = _; rw [H2.out]; simp [endSt, hz', ha]
              clear H1 H2 hz'
              go_wp2_with (go_at_call 65; refine (isAssertion_any s.kind _ _ _ _ _ _ _ _).mono ?_; rintro e w1 ⟨rfl, hk3⟩; have hG6 := hk3.get hcg (by simp))
              have D1 := D.still hk3
              have PS := (show Hid _ from fun N => HS.out N D _ hk3)
              obtain ⟨q0, q1, q2, q3, q4, q5, q6, q7, q8, q9, q10, q11, q12⟩ := D1.cells o ho
              clear q0 q1 q2 q3 q4 q5 q7 q8 q9 q10 q11 q12
              simp only [endTo_len, e6] at q6
              obtain ⟨c0, c1, c2, c3, c4, c5, c6, c7⟩ := D1.stmt g6 e6 k _ hat2.out
              clear c0 c1 c2 c3 c4 c5 c6
              have hfg := free_of hG6
              have hfr := D1.free
              go_region
              all_goals go_wp2
              all_goals
                go_roundg (d.sts.length - (k + 1))
                case measure => omega
                case rel => exact ⟨k + 1, by omega, by omega, rfl, by go_num, by rw [HT.out]; exact (PS.out _).1.still (Kept.refl [] _).drew, (PS.out _).2.still (Kept.refl [] _).drew⟩
            · have HT : Hid (endTo d.sts x (k + 1) = endTo d.sts x k) := H1.out (by simp [endSt, ha])
              clear HS H1 H2 hfg hz'
              go_wp2_with (go_at_call 65; refine (isAssertion_any s.kind _ _ _ _ _ _ _ _).mono ?_; rintro e w1 ⟨rfl, hk3⟩)
              go_roundg (d.sts.length - (k + 1))
              case measure => omega
              case rel => exact ⟨k + 1, by omega, by omega, rfl, by go_num, by rw [HT.out]; exact D.still hk3, T.still hk3⟩
      · have e : k = d.sts.length := by omega
        subst e
        go_wp2
        go_end0
        exact ⟨rfl, D, T⟩

end Go.Proofs.YtcipkfhpcbddiaaGreat

/- Package record: a statement more. -/
namespace Go.Proofs.YtcipkfhpcbddiaaGreat
open Go.RowKit

theorem infoT : (Tryz.prog.info? 119).map (fun i => (i.zero, i.size, i.bytes)) = some (some (.agg #[.int .i64 0, .string ⟨#[]⟩, .slice none 0 0, .slice none 0 0, .string ⟨#[]⟩, .int .i64 0, .int .i64 0, .int .i64 0]), 8, 112) := by kernel_rfl
theorem infoW : (Tryz.prog.info? 157).map (fun i => (i.zero, i.size, i.bytes)) = some (some (.agg #[.string ⟨#[]⟩, .string ⟨#[]⟩, .int .i64 0, .int .i64 0]), 4, 48) := by kernel_rfl

theorem stsV_congr2 (l : List St) (H H' : Nat → Hd) (h : ∀ j, j < 10 + 2 * l.length → H' j = H j) : stsV l H' = stsV l H := by
  unfold stsV
  rw [List.flatMap_def, List.flatMap_def]
  congr 1
  apply List.map_congr_left
  intro p hp
  have : p.2 < l.length := by
    have := List.snd_lt_add_of_mem_zipIdx hp
    omega
  rw [h _ (by omega), h _ (by omega)]
theorem rowS_nil (w : World) (h : Hd) (l : List ByteArray) (o : Owns w h (rowS l)) : Owns w h (rowS []) := by
  have := o.taken 0; simpa using this
theorem rowW_nil (w : World) (h : Hd) (l : List (ByteArray × Pl)) (o : Owns w h (rowW l)) : Owns w h (rowW []) := by
  rcases o.ways with ⟨e0, h0, _⟩ | ⟨g, cur, e1, e2, e3, e4, e5, e6⟩
  · subst e0
    exact ⟨by simp [rowW, wordsV], Or.inl ⟨by simp [rowW], by simp [rowW]⟩⟩
  · obtain ⟨ao, cap⟩ := h
    simp only at e1 e3 e4 e5
    subst e1
    exact ⟨by simp [rowW, wordsV], Or.inr ⟨g, cap, cur, rfl, Nat.zero_le _, e2, by simp [rowW], e4, e5, by simp [rowW, wordsV]⟩⟩

theorem DbIs.addst {w0 w w1 : World} {b t o : Nat} {pre post : List Value} {d : Db} {H : Nat → Hd} (h0 : DbIs w0 b t pre post d H) (hk0 : Kept [] w0 w) (ho : pre.length = o) (s : St) (hs hp : Hd) (gs gp : Nat)
    (hsb : hs.blk = some gs) (hpb : hp.blk = some gp) (hs0 : w0.heap.size ≤ gs) (hp0 : w0.heap.size ≤ gp) (hne : gs ≠ gp) (os : Owns w hs (rowS s.symbols)) (op : Owns w hp (rowW s.proof))
    (g cap' : Nat) (hw1 : Owns w1 ⟨some ⟨g, 0, none⟩, cap'⟩ ⟨(rowT d.sts H).e, (rowT d.sts H).size, (rowT d.sts H).n + 1, (rowT d.sts H).xs ++ stV s hs hp⟩) (hgr : w.grownBy w1 (H 6).blk) (hfresh : (H 6).blk = some g ∨ w.heap.size ≤ g) :
    w1.cell? ⟨b, o + 6, none⟩ = some (.slice (H 6).ao d.sts.length (H 6).cap) ∧ w1.frozen? ⟨b, o + 6, none⟩ = false ∧
    Hid (∃ H', DbIs (w1.setCell ⟨b, o + 6, none⟩ (.slice (some ⟨g, 0, none⟩) ((rowT d.sts H).n + 1) cap')) b t pre post { d with sts := d.sts ++ [s] } H' ∧
      Turned b w0 H (w1.setCell ⟨b, o + 6, none⟩ (.slice (some ⟨g, 0, none⟩) ((rowT d.sts H).n + 1) cap')) H' ∧ ∀ j, j < 10 → j ≠ 6 → H' j = H j) := by
  have h := h0.still hk0
  have hk := (hgr.block b h.lt (fun e => h.off 6 e.symm)).trans h.blk
  refine ⟨(cell_of hk (o + 6)).trans (mid_get pre (dbList d H) post o 6 ho (by simp [dbList])), free_of hk _, ?_⟩
  have hlt := fun {k} (hk : InH H k) => h0.inlt hk
  have hbl := h0.lt
  obtain ⟨H1, hH1⟩ : ∃ H1, H1 = upd (upd H (10 + 2 * d.sts.length) hs) (11 + 2 * d.sts.length) hp := ⟨_, rfl⟩
  have e1 : ∀ j, j ≠ 10 + 2 * d.sts.length → j ≠ 11 + 2 * d.sts.length → H1 j = H j := fun j a c => by rw [hH1, upd_other _ _ _ _ c, upd_other _ _ _ _ a]
  have e2 : H1 (10 + 2 * d.sts.length) = hs := by rw [hH1, upd_other _ _ _ _ (by omega), upd_same]
  have e3 : H1 (11 + 2 * d.sts.length) = hp := by rw [hH1, upd_same]
  have e4 : stsV d.sts H1 = stsV d.sts H := stsV_congr2 _ _ _ (fun j hj => e1 j (by omega) (by omega))
  clear hH1
  have el : dbList d H1 = dbList d H := by
    unfold dbList
    rw [e1 0 (by omega) (by omega), e1 1 (by omega) (by omega), e1 2 (by omega) (by omega), e1 3 (by omega) (by omega), e1 4 (by omega) (by omega), e1 5 (by omega) (by omega), e1 6 (by omega) (by omega), e1 7 (by omega) (by omega), e1 8 (by omega) (by omega), e1 9 (by omega) (by omega)]
  have er : ∀ j, rowsOf d H1 j = rowsOf d H j := by
    intro j
    unfold rowsOf
    split <;> first | rfl | (simp only [rowT, e4])
  have bk : ∀ j, (H1 j).blk = (H j).blk ∨ ((H1 j).blk = some gs ∧ j = 10 + 2 * d.sts.length) ∨ ((H1 j).blk = some gp ∧ j = 11 + 2 * d.sts.length) := by
    intro j
    by_cases a : j = 10 + 2 * d.sts.length
    · subst a; rw [e2]; exact Or.inr (Or.inl ⟨hsb, rfl⟩)
    · by_cases c : j = 11 + 2 * d.sts.length
      · subst c; rw [e3]; exact Or.inr (Or.inr ⟨hpb, rfl⟩)
      · rw [e1 j a c]; exact Or.inl rfl
  have D1 : DbIs w b t pre post d H1 := by
    refine ⟨by rw [el]; exact h.blk, ?_, ?_, ?_⟩
    · intro j
      rw [er j]
      by_cases a : j = 10 + 2 * d.sts.length
      · subst a
        rw [e2]
        have : rowsOf d H (10 + 2 * d.sts.length) = rowS [] := by
          rw [show 10 + 2 * d.sts.length = 2 * d.sts.length + 10 by omega]
          simp [rowsOf, inner, symsAt]
        rw [this]; exact rowS_nil w hs _ os
      · by_cases c : j = 11 + 2 * d.sts.length
        · subst c
          rw [e3]
          have : rowsOf d H (11 + 2 * d.sts.length) = rowW [] := by
            rw [show 11 + 2 * d.sts.length = (2 * d.sts.length + 1) + 10 by omega]
            have q : (2 * d.sts.length + 1) % 2 = 1 := by omega
            have q2 : (2 * d.sts.length + 1) / 2 = d.sts.length := by omega
            simp [rowsOf, inner, prfAt, q, q2]
          rw [this]; exact rowW_nil w hp _ op
        · rw [e1 j a c]; exact h.own j
    · intro i j hij
      have f : ∀ i k, (H i).blk = some k → k < w0.heap.size := fun i k e => hlt ⟨i, e⟩
      rcases bk i with a | ⟨a, ai⟩ | ⟨a, ai⟩ <;> rcases bk j with c | ⟨c, cj⟩ | ⟨c, cj⟩ <;> rw [a, c]
      · exact h.apart i j hij
      · cases e : (H i).blk with
        | none => exact Or.inl rfl
        | some k => right; intro ek; cases ek; have := f i _ e; omega
      · cases e : (H i).blk with
        | none => exact Or.inl rfl
        | some k => right; intro ek; cases ek; have := f i _ e; omega
      · right; intro ek; have := f j _ ek.symm; omega
      · omega
      · right; intro ek; cases ek; exact hne rfl
      · right; intro ek; have := f j _ ek.symm; omega
      · right; intro ek; cases ek; exact hne rfl
      · omega
    · intro j
      rcases bk j with a | ⟨a, _⟩ | ⟨a, _⟩ <;> rw [a]
      · exact h.off j
      · intro e; cases e; omega
      · intro e; cases e; omega
  have T1 : Turned b w0 H w H1 := by
    refine ⟨hk0.toP (by simp), ?_⟩
    rintro k ⟨j, hj⟩
    rcases bk j with a | ⟨a, _⟩ | ⟨a, _⟩ <;> rw [a] at hj
    · exact Or.inl ⟨j, hj⟩
    · cases hj; exact Or.inr hs0
    · cases hj; exact Or.inr hp0
  have h6 : H1 6 = H 6 := e1 6 (by omega) (by omega)
  have er6 : rowsOf { d with sts := d.sts ++ [s] } H1 6 = ⟨(rowT d.sts H).e, (rowT d.sts H).size, (rowT d.sts H).n + 1, (rowT d.sts H).xs ++ stV s hs hp⟩ := by
    simp only [rowsOf, rowT, stsV_snoc, e2, e3, e4, List.length_append, List.length_cons, List.length_nil]
  have P := D1.putG (d' := { d with sts := d.sts ++ [s] }) o 6 ho 6 (by omega) ⟨some ⟨g, 0, none⟩, cap'⟩ (by rw [er6]; exact hw1) (by rw [h6]; exact hgr)
    (by rcases hfresh with e | e
        · exact Or.inr (Or.inl (by rw [h6]; exact e.symm))
        · exact Or.inr (Or.inr ⟨g, rfl, e⟩))
    (by
      intro j hj
      by_cases a : j = 10 + 2 * d.sts.length
      · subst a
        rw [e2]
        have : rowsOf { d with sts := d.sts ++ [s] } H1 (10 + 2 * d.sts.length) = rowS s.symbols := by
          rw [show 10 + 2 * d.sts.length = 2 * d.sts.length + 10 by omega]
          simp [rowsOf, inner, symsAt]
        rw [this]; exact os
      · by_cases c : j = 11 + 2 * d.sts.length
        · subst c
          rw [e3]
          have : rowsOf { d with sts := d.sts ++ [s] } H1 (11 + 2 * d.sts.length) = rowW s.proof := by
            rw [show 11 + 2 * d.sts.length = (2 * d.sts.length + 1) + 10 by omega]
            have q : (2 * d.sts.length + 1) % 2 = 1 := by omega
            have q2 : (2 * d.sts.length + 1) / 2 = d.sts.length := by omega
            simp [rowsOf, inner, prfAt, q, q2]
          rw [this]; exact op
        · have : rowsOf { d with sts := d.sts ++ [s] } H1 j = rowsOf d H1 j := by
            match j, hj, a, c with
            | 0, _, _, _ => rfl
            | 1, _, _, _ => rfl
            | 2, _, _, _ => rfl
            | 3, _, _, _ => rfl
            | 4, _, _, _ => rfl
            | 5, _, _, _ => rfl
            | 6, hj, _, _ => exact absurd rfl hj
            | 7, _, _, _ => rfl
            | 8, _, _, _ => rfl
            | 9, _, _, _ => rfl
            | m + 10, _, a, c =>
              have hm : m / 2 ≠ d.sts.length := by omega
              have e : (d.sts ++ [s])[m / 2]? = d.sts[m / 2]? := by
                rcases Nat.lt_or_ge (m / 2) d.sts.length with hl | hl
                · exact List.getElem?_append_left hl
                · rw [List.getElem?_append_right hl, List.getElem?_eq_none hl, List.getElem?_eq_none (by simp; omega)]
              simp only [rowsOf, inner, symsAt, prfAt, e]
          rw [this]; exact D1.own j)
    (.slice (some ⟨g, 0, none⟩) ((rowT d.sts H).n + 1) cap') (by omega) (by
      rw [el]
      have u : ∀ j, j < 10 → j ≠ 6 → upd H1 6 (⟨some ⟨g, 0, none⟩, cap'⟩ : Hd) j = H j := fun j hj hn => by rw [upd_other _ _ _ _ hn]; exact e1 j (by omega) (by omega)
      unfold dbList
      rw [u 0 (by omega) (by omega), u 1 (by omega) (by omega), u 2 (by omega) (by omega), u 3 (by omega) (by omega), u 4 (by omega) (by omega), u 5 (by omega) (by omega), u 7 (by omega) (by omega), u 8 (by omega) (by omega), u 9 (by omega) (by omega), upd_same]
      simp [rowT])
  exact ⟨_, P.1, T1.trans P.2, fun j hj hn => by rw [upd_other _ _ _ _ hn]; exact e1 j (by omega) (by omega)⟩

end Go.Proofs.YtcipkfhpcbddiaaGreat

/- Package record: Add. -/
namespace Go.Proofs.YtcipkfhpcbddiaaGreat
open Go.RowKit

theorem wordsV_one (l : List (ByteArray × Pl)) : ∀ u ∈ wordsV l, u.oneCell' = true := by
  intro u hu
  simp only [wordsV, List.mem_flatMap] at hu
  obtain ⟨p, _, hu⟩ := hu
  simp only [wordV, List.mem_cons, List.not_mem_nil, or_false] at hu
  rcases hu with rfl | rfl | rfl | rfl <;> rfl
theorem stV_one (s : St) (a b : Hd) : ∀ u ∈ stV s a b, u.oneCell' = true := by
  intro u hu
  simp only [stV, List.mem_cons, List.not_mem_nil, or_false] at hu
  rcases hu with rfl | rfl | rfl | rfl | rfl | rfl | rfl | rfl <;> rfl

set_option maxHeartbeats 2000000 in
set_option maxRecDepth 100000 in
theorem recAdd_any (b t o : Nat) (pre post : List Value) (d : Db) (H : Nat → Hd) (k : Int) (lab f : ByteArray) (l c : Int) (w : World) (h : DbIs w b t pre post d H) (ho : pre.length = o) (hs : Small d 100000000) :
    Calls Tryz.prog 133 #[.pointer (some ⟨b, o + 6, none⟩), .agg #[.int .i64 k, .string lab, .slice (H 8).ao d.symbols.length (H 8).cap, .slice (H 9).ao d.proof.length (H 9).cap, .string f, .int .i64 l, .int .i64 c, .int .i64 0]] w fun e w' =>
      e = .returned (.tuple #[]) ∧ ∃ H', DbIs w' b t pre post { d with sts := d.sts ++ [⟨k, lab, d.symbols, d.proof, ⟨f, l, c⟩, 0⟩] } H' ∧ Turned b w H w' H' ∧ ∀ j, j < 10 → j ≠ 6 → H' j = H j := by
  obtain ⟨i0, hi, hz0, hz1, hz2⟩ := info_parts infoS
  obtain ⟨i1, hi1, hy0, hy1, hy2⟩ := info_parts infoW
  obtain ⟨i2, hi2, hx0, hx1, hx2⟩ := info_parts infoT
  have hl8 := hs.symbols
  have hl9 := hs.proof
  have hl6 := hs.sts
  have m1 := fun w => run_make_row (P := Tryz.prog) w 22 9 i0 _ Tryz.underlying22 hi hz0 d.symbols.length 1 hz1 (by rw [hz2]; omega) (by omega)
  have m2 := fun w => run_make_row (P := Tryz.prog) w 109 157 i1 _ Tryz.underlying109 hi1 hy0 d.proof.length 4 hy1 (by rw [hy2]; omega) (by omega)
  obtain ⟨mc1, hmc1⟩ : ∃ mc, mc = madeCells (Value.string ⟨#[]⟩).cells (d.symbols.length * 1) := ⟨_, rfl⟩
  obtain ⟨mc2, hmc2⟩ : ∃ mc, mc = madeCells (Value.agg #[.string ⟨#[]⟩, .string ⟨#[]⟩, .int .i64 0, .int .i64 0]).cells (d.proof.length * 4) := ⟨_, rfl⟩
  have z1 : mc1.size = d.symbols.length * 1 := by rw [hmc1, size_madeCells]
  have z2 : mc2.size = d.proof.length * 4 := by rw [hmc2, size_madeCells]
  rw [← hmc1] at m1
  rw [← hmc2] at m2
  clear hmc1 hmc2
  obtain ⟨bx, hbx⟩ : ∃ bx : Array Value, bx = #[.int .i64 k, .string lab, .slice (H 8).ao d.symbols.length (H 8).cap, .slice (H 9).ao d.proof.length (H 9).cap, .string f, .int .i64 l, .int .i64 c, .int .i64 0] := ⟨_, rfl⟩
  obtain ⟨W2, hW2⟩ : ∃ W2, W2 = (w.alloc (.cells #[.int .i64 k, .string lab, .slice (H 8).ao d.symbols.length (H 8).cap, .slice (H 9).ao d.proof.length (H 9).cap, .string f, .int .i64 l, .int .i64 c, .int .i64 0] 119)).alloc (.cells mc1 9) := ⟨_, rfl⟩
  have K2 : Kept [] w W2 := by rw [hW2]; exact ((Kept.refl [] _).alloc _).alloc _
  have D2 := h.still K2
  have Z2 : W2.heap.size = w.heap.size + 2 := by rw [hW2]; simp
  have B2 : W2.heap[w.heap.size]? = some (.cells bx 119 (0, 0)) := by
    rw [hW2, hbx]; exact ((Kept.refl [] _).alloc _).get (heap_alloc_new _ _) (by simp)
  have G2 : W2.heap[w.heap.size + 1]? = some (.cells mc1 9 (0, 0)) := by
    rw [hW2]
    have := heap_alloc_new (w.alloc (.cells #[.int .i64 k, .string lab, .slice (H 8).ao d.symbols.length (H 8).cap, .slice (H 9).ao d.proof.length (H 9).cap, .string f, .int .i64 l, .int .i64 c, .int .i64 0] 119)) (.cells mc1 9)
    simpa using this
  have HW2 := (show Hid _ from hW2.symm)
  have hbw := h.lt
  have Hsz1 : Hid ((Tryz.prog.info? (rowS d.symbols).e).map (·.size) = some (rowS d.symbols).size) := by show _ = _; simp [rowS, hi, hz1]
  have Hsz2 : Hid ((Tryz.prog.info? (rowW d.proof).e).map (·.size) = some (rowW d.proof).size) := by show _ = _; simp [rowW, hi1, hy1]
  clear hW2
  go_enter Tryz.func133, Tryz.ntmps133
  go_upto_region 2 with fail
  rw [HW2.out]
  have b2 : W2.cell? ⟨w.heap.size, 2, none⟩ = some (.slice (H 8).ao d.symbols.length (H 8).cap) := by rw [cell_of B2, hbx]; rfl
  clear HW2 m1
  obtain ⟨w3, cp1, hg3, hk3, hz3⟩ := copy_full (P := Tryz.prog) W2 22 22 3 (w.heap.size + 1) d.symbols.length (H 8) (rowS d.symbols) mc1 9 Tryz.underlying22 Hsz1.out G2 (D2.own 8) z1 (strs_one _)
  simp only [rowS] at cp1 hg3
  have K3 : Kept [] w w3 := ((K2.mono (S' := [w.heap.size + 1]) (by simp)).trans hk3).mono (by simp)
  have B3 := hk3.get B2 (by simp)
  rw [Z2] at hz3
  have b3 : w3.cell? ⟨w.heap.size, 3, none⟩ = some (.slice (H 9).ao d.proof.length (H 9).cap) := by rw [cell_of B3, hbx]; rfl
  clear G2 B2 D2 hk3 K2
  obtain ⟨W4, hW4⟩ : ∃ W4, W4 = w3.alloc (.cells mc2 157) := ⟨_, rfl⟩
  have K4 : Kept [] w W4 := by rw [hW4]; exact K3.alloc _
  have k34 : Kept [] w3 W4 := by rw [hW4]; exact (Kept.refl [] _).alloc _
  have D4 := h.still K4
  have B4 := k34.get B3 (by simp)
  have S4 := k34.get hg3 (by simp)
  have G4 : W4.heap[w.heap.size + 2]? = some (.cells mc2 157 (0, 0)) := by rw [hW4, ← hz3]; exact heap_alloc_new _ _
  have HW4 := (show Hid _ from hW4.symm)
  have Z4 : W4.heap.size = w.heap.size + 3 := by rw [hW4]; simp [hz3]
  clear hW4 k34
  go_upto_region 4 with fail
  clear cp1 b2
  rw [HW4.out]
  have b4 : W4.cell? ⟨w.heap.size, 3, none⟩ = some (.slice (H 9).ao d.proof.length (H 9).cap) := by rw [cell_of B4, hbx]; rfl
  clear HW4 m2 b3
  obtain ⟨w5, cp2, hg5, hk5, hz5⟩ := copy_full (P := Tryz.prog) W4 109 109 3 (w.heap.size + 2) d.proof.length (H 9) (rowW d.proof) mc2 157 Tryz.underlying109 Hsz2.out G4 (D4.own 9) z2 (wordsV_one _)
  simp only [rowW] at cp2 hg5
  have K5 : Kept [] w w5 := ((K4.mono (S' := [w.heap.size + 2]) (by simp)).trans hk5).mono (by simp)
  have B5 := hk5.get B4 (by simp)
  have S5 := hk5.get S4 (by simp)
  rw [Z4] at hz5
  clear G4 B4 D4 hk5 K4 S4
  have bx2 : w5.cell? ⟨w.heap.size, 2, none⟩ = some (.slice (H 8).ao d.symbols.length (H 8).cap) := by rw [cell_of B5, hbx]; rfl
  have bx3 : w5.cell? ⟨w.heap.size, 3, none⟩ = some (.slice (H 9).ao d.proof.length (H 9).cap) := by rw [cell_of B5, hbx]; rfl
  have bx7 : w5.cell? ⟨w.heap.size, 7, none⟩ = some (.int .i64 0) := by rw [cell_of B5, hbx]; rfl
  have fx := free_of B5
  obtain ⟨W8, hW8⟩ : ∃ W8, W8 = ((w5.setCell ⟨w.heap.size, 2, none⟩ (.slice (some ⟨w.heap.size + 1, 0, none⟩) d.symbols.length d.symbols.length)).setCell ⟨w.heap.size, 3, none⟩ (.slice (some ⟨w.heap.size + 2, 0, none⟩) d.proof.length d.proof.length)).setCell ⟨w.heap.size, 7, none⟩ (.int .i64 0) := ⟨_, rfl⟩
  have HW8 := (show Hid _ from hW8.symm)
  have K8 : Kept [] w W8 := by rw [hW8]; exact ((K5.setCell (Or.inr (Nat.le_refl _)) _).setCell (Or.inr (Nat.le_refl _)) _).setCell (Or.inr (Nat.le_refl _)) _
  have k58 : Kept [w.heap.size] w5 W8 := by rw [hW8]; exact (((Kept.refl _ _).setCell (Or.inl (by simp)) _).setCell (Or.inl (by simp)) _).setCell (Or.inl (by simp)) _
  have B8 : W8.heap[w.heap.size]? = some (.cells (stV ⟨k, lab, d.symbols, d.proof, ⟨f, l, c⟩, 0⟩ ⟨some ⟨w.heap.size + 1, 0, none⟩, d.symbols.length⟩ ⟨some ⟨w.heap.size + 2, 0, none⟩, d.proof.length⟩).toArray 119 (0, 0)) := by
    rw [hW8, block_setCell (block_setCell (block_setCell B5 _ _) _ _), hbx]; rfl
  have S8 := k58.get S5 (by simp)
  have P8 := k58.get hg5 (by simp)
  clear hW8 k58 S5 hg5 B5
  go_upto_region 8 with fail
  rw [HW8.out]
  clear HW8 cp2 bx2 bx3 bx7 fx b4 K5 hbx hg3 hz3 B3 K3
  have y := fun j v (hv : (stV ⟨k, lab, d.symbols, d.proof, ⟨f, l, c⟩, 0⟩ ⟨some ⟨w.heap.size + 1, 0, none⟩, d.symbols.length⟩ ⟨some ⟨w.heap.size + 2, 0, none⟩, d.proof.length⟩)[j]? = some v) => (cell_of B8 j).trans (by simpa using hv)
  have y0 := y 0 _ rfl
  have y1 := y 1 _ rfl
  have y2 := y 2 _ rfl
  have y3 := y 3 _ rfl
  have y4 := y 4 _ rfl
  have y5 := y 5 _ rfl
  have y6 := y 6 _ rfl
  have y7 := y 7 _ rfl
  simp only at y0 y1 y2 y3 y4 y5 y6 y7
  clear y
  have D8 := h.still K8
  have q6 := D8.cellAt o ho 6 (by omega)
  simp only [dbList, List.getElem?_cons_succ, List.getElem?_cons_zero] at q6
  have hfr := D8.free
  have hb8 := D8.lt
  obtain ⟨news, hnews⟩ : ∃ news : List Value, news = stV ⟨k, lab, d.symbols, d.proof, ⟨f, l, c⟩, 0⟩ ⟨some ⟨w.heap.size + 1, 0, none⟩, d.symbols.length⟩ ⟨some ⟨w.heap.size + 2, 0, none⟩, d.proof.length⟩ := ⟨_, rfl⟩
  obtain ⟨W9, hW9⟩ : ∃ W9, W9 = (W8.alloc (.cells #[.int .i64 k, .string lab, .slice (some ⟨w.heap.size + 1, 0, none⟩) d.symbols.length d.symbols.length, .slice (some ⟨w.heap.size + 2, 0, none⟩) d.proof.length d.proof.length, .string f, .int .i64 l, .int .i64 c, .int .i64 0] 119)).drew := ⟨_, rfl⟩
  have K9 : Kept [] W8 W9 := by rw [hW9]; exact ((Kept.refl [] _).alloc _).drew
  have G9 : W9.heap[W8.heap.size]? = some (.cells news.toArray 119 (0, 0)) := by rw [hW9, hnews]; exact heap_alloc_new _ _
  have O1 : Owns W9 ⟨some ⟨w.heap.size + 1, 0, none⟩, d.symbols.length⟩ (rowS d.symbols) := Owns.made (r := rowS d.symbols) (K9.get S8 (by simp)) (strs_len _) (by simp only [rowS]; unfold maxLen; omega)
  have O2 : Owns W9 ⟨some ⟨w.heap.size + 2, 0, none⟩, d.proof.length⟩ (rowW d.proof) := Owns.made (r := rowW d.proof) (K9.get P8 (by simp)) (wordsV_len _) (by simp only [rowW]; unfold maxLen; omega)
  have D9 : Hid (DbIs W9 b t pre post d H) := D8.still K9
  have s2 : Hid (∀ j u, news[j]? = some u → W9.cell? ((⟨W8.heap.size, 0, none⟩ : Addr).add j) = some u) := by
    intro j u hj
    rw [addr_add, cell_of G9]; simpa using hj
  have s3 : Hid (∀ u ∈ news, u.oneCell' = true) := by rw [hnews]; exact stV_one _ _ _
  have s4 : Hid ((rowT d.sts H).n + 1 ≤ maxLen) := by show _ ≤ _; simp only [rowT]; unfold maxLen; omega
  have s5 : Hid (((rowT d.sts H).n + 1) * 112 ≤ 140737488355328) := by show _ ≤ _; simp only [rowT]; omega
  have AF := fun (g cap' : Nat) (w1 : World) (hw1 : Owns w1 ⟨some ⟨g, 0, none⟩, cap'⟩ ⟨(rowT d.sts H).e, (rowT d.sts H).size, (rowT d.sts H).n + 1, (rowT d.sts H).xs ++ news⟩) hgr hfresh => h.addst (K8.trans K9) ho ⟨k, lab, d.symbols, d.proof, ⟨f, l, c⟩, 0⟩ ⟨some ⟨w.heap.size + 1, 0, none⟩, d.symbols.length⟩ ⟨some ⟨w.heap.size + 2, 0, none⟩, d.proof.length⟩ (w.heap.size + 1) (w.heap.size + 2) rfl rfl (by omega) (by omega) (by omega) O1 O2 g cap' (w1 := w1) (by rw [← hnews]; exact hw1) hgr hfresh
  have HAF := (show Hid _ from AF)
  have hlen : Hid (news.length = 1 * (rowT d.sts H).size) := by show _ = _; rw [hnews]; rfl
  rw [hW9] at D9 s2 HAF
  clear AF O1 O2 G9 K9 hW9 W9 hnews P8 S8 B8
  go_region_law (refine step_append_row rfl (.tmp 31) (.tmp 33) 80 rfl i2 (.agg #[.int .i64 0, .string ⟨#[]⟩, .slice none 0 0, .slice none 0 0, .string ⟨#[]⟩, .int .i64 0, .int .i64 0, .int .i64 0]) 112 (H 6) (rowT d.sts H) Tryz.underlying80 hi2 hx0 hx1 hx2 rfl (Nat.succ_pos 7) (by simp [Act.eval] <;> rfl) (D9.out.own 6) ⟨W8.heap.size, 0, none⟩ 1 1 news (by simp [Act.eval]) hlen.out s2.out s3.out Nat.one_pos s4.out s5.out ?_; intro g cap' w1 hw1 hgr hfresh; obtain ⟨k5, f5, HP⟩ := HAF.out g cap' w1 hw1 hgr (by simpa using hfresh); clear hw1 hgr hfresh)
  all_goals go_wp2
  all_goals go_end0
  all_goals
    obtain ⟨H', P1, P2, P3⟩ := HP.out
    exact ⟨rfl, H', P1, P2, P3⟩

end Go.Proofs.YtcipkfhpcbddiaaGreat
