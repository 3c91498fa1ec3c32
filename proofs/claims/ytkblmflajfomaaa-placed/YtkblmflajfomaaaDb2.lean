/- Package statements: the looks into a list; the lists that grow. -/
import Derived.Test.YtkblmflajfomaaaDb1
namespace Go.Proofs.Ytkblmflajfomaaa
open Go.RowKit

def hasF (l : List ByteArray) (x : ByteArray) : Bool := l.any (fun y => y.toList == x.toList)

theorem has_hit (l : List ByteArray) (x : ByteArray) (k : Nat) (h : k < l.length) (he : hasF l x = hasF (l.drop k) x) (hb : ((l[k]).toList == x.toList) = true) : hasF l x = true := by
  rw [he, List.drop_eq_getElem_cons h]; simp only [hasF, List.any_cons, hb, Bool.true_or]
theorem has_miss (l : List ByteArray) (x : ByteArray) (k : Nat) (h : k < l.length) (he : hasF l x = hasF (l.drop k) x) (hb : ((l[k]).toList == x.toList) = false) : hasF l x = hasF (l.drop (k + 1)) x := by
  rw [he, List.drop_eq_getElem_cons h]; simp only [hasF, List.any_cons, hb, Bool.false_or]
theorem has_over (l : List ByteArray) (x : ByteArray) (k : Nat) (h : ¬ k < l.length) (he : hasF l x = hasF (l.drop k) x) : hasF l x = false := by
  rw [he, List.drop_of_length_le (by omega)]; rfl

theorem strs_at (l : List ByteArray) (k : Nat) (h : k < l.length) : (strs l)[k]? = some (.string l[k]) := by simp [strs, h]

set_option maxHeartbeats 400000 in
theorem has_any (hd : Hd) (l : List ByteArray) (x : ByteArray) (w : World) (ho : Owns w hd (rowS l)) (hl : l.length ≤ 1073741824) :
    Calls Try.prog 60 #[.slice hd.ao l.length hd.cap, .string x] w fun e w' => e = .returned (.bool (hasF l x)) ∧ w' = w := by
  obtain ⟨ao, cap⟩ := hd
  rcases ho.ways with ⟨e0, h0, _⟩ | ⟨g, cur, e1, _⟩
  · have h0' : l.length = 0 := h0
    have hl0 : l = [] := List.eq_nil_of_length_eq_zero h0'
    subst hl0
    injection e0 with e0 e2
    subst e0
    clear ho h0 h0' hl e2
    go_enter Try.func60, Try.ntmps60
    go_wp2
    refine wp_loop_rounds 1 ?_
    rw [rounds_succ]
    go_wp2
    go_ret
    exact ⟨rfl, rfl⟩
  · simp only at e1
    subst e1
    go_enter Try.func60, Try.ntmps60
    go_wp2
    go_loopg [5] l.length (fun g i wr => ∃ k : Nat, k ≤ l.length ∧ g = l.length - k ∧ i = .int .i64 k ∧ Hid (hasF l x = hasF (l.drop k) x) ∧ wr = w)
    case atStart => exact ⟨0, by omega, by omega, rfl, rfl, rfl⟩
    case round =>
      obtain ⟨k, hk, hg, rfl, hs, rfl⟩ := hrel
      by_cases hlt : k < l.length
      · have c1 := ho.cell rfl k (.string l[k]) (strs_at l k hlt)
        cases hb : ((l[k]).toList == x.toList)
        · have HM : Hid (hasF l x = hasF (l.drop (k + 1)) x) := has_miss l x k hlt hs.out hb
          clear hs ho
          go_wp2
          go_roundg (l.length - (k + 1))
          case measure => omega
          case rel => exact ⟨k + 1, by omega, rfl, by go_num, HM, rfl⟩
        · have HM : Hid (hasF l x = true) := has_hit l x k hlt hs.out hb
          clear hs ho
          go_wp2
          go_ret
          exact ⟨ret_bool HM.out.symm, rfl⟩
      · have HM : Hid (hasF l x = false) := has_over l x k hlt hs.out
        clear hs ho
        go_wp2
        go_ret
        exact ⟨ret_bool HM.out.symm, rfl⟩

theorem infoS : (Try.prog.info? 9).map (fun i => (i.zero, i.size, i.bytes)) = some (some (.string ⟨#[]⟩), 1, 16) := by kernel_rfl
theorem strs_snoc (l : List ByteArray) (x : ByteArray) : strs (l ++ [x]) = strs l ++ [.string x] := by simp [strs]

/-- What an append to a list of texts leaves, in the form that the walk wants. -/
theorem rowS_snoc (l : List ByteArray) (x : ByteArray) : (⟨(rowS l).e, (rowS l).size, (rowS l).n + 1, (rowS l).xs ++ [.string x]⟩ : Row) = rowS (l ++ [x]) := by
  simp [rowS, strs_snoc]

set_option maxHeartbeats 400000 in
set_option maxRecDepth 100000 in
theorem addLabel_any (b t o : Nat) (pre post : List Value) (d : Db) (H : Nat → Hd) (x : ByteArray) (w : World) (h : DbIs w b t pre post d H) (ho : pre.length = o) (hl : d.labels.length ≤ 1073741824) :
    Calls Try.prog 69 #[.pointer (some ⟨b, o, none⟩), .string x] w fun e w' => e = .returned (.tuple #[]) ∧ ∃ H', DbIs w' b t pre post { d with labels := d.labels ++ [x] } H' ∧ Turned b w H w' H' := by
  obtain ⟨i0, hi, hz0, hz1, hz2⟩ := info_parts infoS
  obtain ⟨q0, q1, q2, q3, q4, q5, q6, q7, q8⟩ := h.cells o ho
  have hfr := h.free
  have hbw := h.lt
  have hA := h.still ((Kept.refl [] w).alloc (.cells #[.string x] 9))
  have hownA := hA.own 0 (by omega)
  go_enter Try.func69, Try.ntmps69
  go_wp2_with (at_builtin; refine wpList_append_row _ rfl (.tmp 8) (.tmp 10) 22 rfl i0 (.string ⟨#[]⟩) 16 (H 0) (rowS d.labels) Try.underlying22 hi hz0 hz1 hz2 rfl Nat.one_pos rfl hownA ⟨w.heap.size, 0, none⟩ 1 1 [.string x] rfl rfl ?c1 ?c2 Nat.one_pos ?c3 ?c4 ?_)
  case c1 => intro j u hj; match j, hj with | 0, hj => simp at hj; subst hj; simp [Addr.add]
  case c2 => intro u hu; simp at hu; subst hu; rfl
  case c3 => simp only [rowS]; unfold maxLen; omega
  case c4 => simp only [rowS]; omega
  · intro g cap' w1 hw1 hgr hfresh
    have hk0 := (hgr.block b (by simp; omega) (fun e => h.off 0 (by omega) e.symm)).trans hA.blk
    have k0 : w1.cell? ⟨b, o, none⟩ = some (.slice (H 0).ao d.labels.length (H 0).cap) := by
      rw [cell_of hk0]; exact (mid_get pre (dbList d H) post o 0 ho (by simp [dbList]))
    have f0 := free_of hk0 (o)
    have P := hA.put (d' := { d with labels := d.labels ++ [x] }) o 0 ho 0 (by omega) ⟨some ⟨g, 0, none⟩, cap'⟩ (by rw [rowS_snoc] at hw1; exact hw1) hgr
      (by rcases hfresh with e | e
          · exact Or.inr (Or.inl e.symm)
          · exact Or.inr (Or.inr ⟨g, rfl, by simpa using e⟩))
      (by intro j hj hne; match j, hj with | 0, _ => first | rfl | omega
                                           | 1, _ => first | rfl | omega
                                           | 2, _ => first | rfl | omega
                                           | 3, _ => first | rfl | omega
                                           | 4, _ => first | rfl | omega
                                           | 5, _ => first | rfl | omega
                                           | 6, _ => first | rfl | omega)
      (.slice (some ⟨g, 0, none⟩) ((rowS d.labels).n + 1) cap') (by omega) (by simp [dbList, upd, rowS])
    have HP := (show Hid _ from P)
    clear P hA hownA q0 q1 q2 q3 q4 q5 q6 q7 q8 hw1 hgr hfresh hk0 hfr
    go_wp2
    go_end0
    exact ⟨rfl, _, HP.out.1, HP.out.2.first ((Kept.refl [] w).alloc _)⟩

set_option maxHeartbeats 400000 in
set_option maxRecDepth 100000 in
theorem addConstant_any (b t o : Nat) (pre post : List Value) (d : Db) (H : Nat → Hd) (x : ByteArray) (w : World) (h : DbIs w b t pre post d H) (ho : pre.length = o) (hl : d.constants.length ≤ 1073741824) :
    Calls Try.prog 70 #[.pointer (some ⟨b, o, none⟩), .string x] w fun e w' => e = .returned (.tuple #[]) ∧ ∃ H', DbIs w' b t pre post { d with constants := d.constants ++ [x] } H' ∧ Turned b w H w' H' := by
  obtain ⟨i0, hi, hz0, hz1, hz2⟩ := info_parts infoS
  obtain ⟨q0, q1, q2, q3, q4, q5, q6, q7, q8⟩ := h.cells o ho
  have hfr := h.free
  have hbw := h.lt
  have hA := h.still ((Kept.refl [] w).alloc (.cells #[.string x] 9))
  have hownA := hA.own 1 (by omega)
  go_enter Try.func70, Try.ntmps70
  go_wp2_with (at_builtin; refine wpList_append_row _ rfl (.tmp 8) (.tmp 10) 22 rfl i0 (.string ⟨#[]⟩) 16 (H 1) (rowS d.constants) Try.underlying22 hi hz0 hz1 hz2 rfl Nat.one_pos rfl hownA ⟨w.heap.size, 0, none⟩ 1 1 [.string x] rfl rfl ?c1 ?c2 Nat.one_pos ?c3 ?c4 ?_)
  case c1 => intro j u hj; match j, hj with | 0, hj => simp at hj; subst hj; simp [Addr.add]
  case c2 => intro u hu; simp at hu; subst hu; rfl
  case c3 => simp only [rowS]; unfold maxLen; omega
  case c4 => simp only [rowS]; omega
  · intro g cap' w1 hw1 hgr hfresh
    have hk0 := (hgr.block b (by simp; omega) (fun e => h.off 1 (by omega) e.symm)).trans hA.blk
    have k0 : w1.cell? ⟨b, o + 1, none⟩ = some (.slice (H 1).ao d.constants.length (H 1).cap) := by
      rw [cell_of hk0]; exact (mid_get pre (dbList d H) post o 1 ho (by simp [dbList]))
    have f0 := free_of hk0 (o + 1)
    have P := hA.put (d' := { d with constants := d.constants ++ [x] }) o 1 ho 1 (by omega) ⟨some ⟨g, 0, none⟩, cap'⟩ (by rw [rowS_snoc] at hw1; exact hw1) hgr
      (by rcases hfresh with e | e
          · exact Or.inr (Or.inl e.symm)
          · exact Or.inr (Or.inr ⟨g, rfl, by simpa using e⟩))
      (by intro j hj hne; match j, hj with | 0, _ => first | rfl | omega
                                           | 1, _ => first | rfl | omega
                                           | 2, _ => first | rfl | omega
                                           | 3, _ => first | rfl | omega
                                           | 4, _ => first | rfl | omega
                                           | 5, _ => first | rfl | omega
                                           | 6, _ => first | rfl | omega)
      (.slice (some ⟨g, 0, none⟩) ((rowS d.constants).n + 1) cap') (by omega) (by simp [dbList, upd, rowS])
    have HP := (show Hid _ from P)
    clear P hA hownA q0 q1 q2 q3 q4 q5 q6 q7 q8 hw1 hgr hfresh hk0 hfr
    go_wp2
    go_end0
    exact ⟨rfl, _, HP.out.1, HP.out.2.first ((Kept.refl [] w).alloc _)⟩

set_option maxHeartbeats 400000 in
set_option maxRecDepth 100000 in
theorem addTyped_any (b t o : Nat) (pre post : List Value) (d : Db) (H : Nat → Hd) (x : ByteArray) (w : World) (h : DbIs w b t pre post d H) (ho : pre.length = o) (hl : d.typed.length ≤ 1073741824) :
    Calls Try.prog 72 #[.pointer (some ⟨b, o, none⟩), .string x] w fun e w' => e = .returned (.tuple #[]) ∧ ∃ H', DbIs w' b t pre post { d with typed := d.typed ++ [x] } H' ∧ Turned b w H w' H' := by
  obtain ⟨i0, hi, hz0, hz1, hz2⟩ := info_parts infoS
  obtain ⟨q0, q1, q2, q3, q4, q5, q6, q7, q8⟩ := h.cells o ho
  have hfr := h.free
  have hbw := h.lt
  have hA := h.still ((Kept.refl [] w).alloc (.cells #[.string x] 9))
  have hownA := hA.own 4 (by omega)
  go_enter Try.func72, Try.ntmps72
  go_wp2_with (at_builtin; refine wpList_append_row _ rfl (.tmp 8) (.tmp 10) 22 rfl i0 (.string ⟨#[]⟩) 16 (H 4) (rowS d.typed) Try.underlying22 hi hz0 hz1 hz2 rfl Nat.one_pos rfl hownA ⟨w.heap.size, 0, none⟩ 1 1 [.string x] rfl rfl ?c1 ?c2 Nat.one_pos ?c3 ?c4 ?_)
  case c1 => intro j u hj; match j, hj with | 0, hj => simp at hj; subst hj; simp [Addr.add]
  case c2 => intro u hu; simp at hu; subst hu; rfl
  case c3 => simp only [rowS]; unfold maxLen; omega
  case c4 => simp only [rowS]; omega
  · intro g cap' w1 hw1 hgr hfresh
    have hk0 := (hgr.block b (by simp; omega) (fun e => h.off 4 (by omega) e.symm)).trans hA.blk
    have k0 : w1.cell? ⟨b, o + 4, none⟩ = some (.slice (H 4).ao d.typed.length (H 4).cap) := by
      rw [cell_of hk0]; exact (mid_get pre (dbList d H) post o 4 ho (by simp [dbList]))
    have f0 := free_of hk0 (o + 4)
    have P := hA.put (d' := { d with typed := d.typed ++ [x] }) o 4 ho 4 (by omega) ⟨some ⟨g, 0, none⟩, cap'⟩ (by rw [rowS_snoc] at hw1; exact hw1) hgr
      (by rcases hfresh with e | e
          · exact Or.inr (Or.inl e.symm)
          · exact Or.inr (Or.inr ⟨g, rfl, by simpa using e⟩))
      (by intro j hj hne; match j, hj with | 0, _ => first | rfl | omega
                                           | 1, _ => first | rfl | omega
                                           | 2, _ => first | rfl | omega
                                           | 3, _ => first | rfl | omega
                                           | 4, _ => first | rfl | omega
                                           | 5, _ => first | rfl | omega
                                           | 6, _ => first | rfl | omega)
      (.slice (some ⟨g, 0, none⟩) ((rowS d.typed).n + 1) cap') (by omega) (by simp [dbList, upd, rowS])
    have HP := (show Hid _ from P)
    clear P hA hownA q0 q1 q2 q3 q4 q5 q6 q7 q8 hw1 hgr hfresh hk0 hfr
    go_wp2
    go_end0
    exact ⟨rfl, _, HP.out.1, HP.out.2.first ((Kept.refl [] w).alloc _)⟩

end Go.Proofs.Ytkblmflajfomaaa
