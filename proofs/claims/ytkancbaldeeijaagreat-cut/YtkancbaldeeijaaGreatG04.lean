/- Our texts: Db2, Db3, Db4, Db5. -/
import Derived.Deep.RegionLaw
import Derived.Test.YtkancbaldeeijaaGreatG03
/- Package statements: the looks into a list; the lists that grow. -/
namespace Go.Proofs.YtkancbaldeeijaaGreat
open Go.RowKit

def hasF (l : List ByteArray) (x : ByteArray) : Bool := l.any (fun y => y.toList == x.toList)

theorem has_hit (l : List ByteArray) (x : ByteArray) (k : Nat) (h : k < l.length) (he : hasF l x = hasF (l.drop k) x) (hb : ((l[k]).toList == x.toList) = true) : hasF l x = true := by
  rw [he, List.drop_eq_getElem_cons h]; simp only [hasF, List.any_cons, hb, Bool.true_or]
theorem has_miss (l : List ByteArray) (x : ByteArray) (k : Nat) (h : k < l.length) (he : hasF l x = hasF (l.drop k) x) (hb : ((l[k]).toList == x.toList) = false) : hasF l x = hasF (l.drop (k + 1)) x := by
  rw [he, List.drop_eq_getElem_cons h]; simp only [hasF, List.any_cons, hb, Bool.false_or]
theorem has_over (l : List ByteArray) (x : ByteArray) (k : Nat) (h : ¬ k < l.length) (he : hasF l x = hasF (l.drop k) x) : hasF l x = false := by
  rw [he, List.drop_of_length_le (by omega)]; rfl

theorem strs_at (l : List ByteArray) (k : Nat) (h : k < l.length) : (strs l)[k]? = some (.string l[k]) := by simp [strs, h]

set_option maxHeartbeats 400000 in
theorem has_any (hd : Hd) (l : List ByteArray) (x : ByteArray) (w : World) (ho : Owns w hd (rowS l)) (hl : l.length ≤ 1073741824) :
    Calls Tryz.prog 99 #[.slice hd.ao l.length hd.cap, .string x] w fun e w' => e = .returned (.bool (hasF l x)) ∧ w' = w := by
  obtain ⟨ao, cap⟩ := hd
  rcases ho.ways with ⟨e0, h0, _⟩ | ⟨g, cur, e1, _⟩
  · have h0' : l.length = 0 := h0
    have hl0 : l = [] := List.eq_nil_of_length_eq_zero h0'
    subst hl0
    injection e0 with e0 e2
    subst e0
    clear ho h0 h0' hl e2
    go_enter Tryz.func99, Tryz.ntmps99
    go_wp2
    refine wp_loop_rounds 1 ?_
    rw [rounds_succ]
    go_wp2
    go_ret
    exact ⟨rfl, rfl⟩
  · simp only at e1
    subst e1
    go_enter Tryz.func99, Tryz.ntmps99
    go_wp2
    go_loopg [5] l.length (fun g i wr => ∃ k : Nat, k ≤ l.length ∧ g = l.length - k ∧ i = .int .i64 k ∧ Hid (hasF l x = hasF (l.drop k) x) ∧ wr = w)
    case atStart => exact ⟨0, by omega, by omega, rfl, rfl, rfl⟩
    case round =>
      obtain ⟨k, hk, hg, rfl, hs, rfl⟩ := hrel
      by_cases hlt : k < l.length
      · have c1 := ho.cell rfl k (.string l[k]) (strs_at l k hlt)
        cases hb : ((l[k]).toList == x.toList)
        · have HM : Hid (hasF l x = hasF (l.drop (k + 1)) x) := has_miss l x k hlt hs.out hb
          clear hs ho
          go_wp2
          go_roundg (l.length - (k + 1))
          case measure => omega
          case rel => exact ⟨k + 1, by omega, rfl, by go_num, HM, rfl⟩
        · have HM : Hid (hasF l x = true) := has_hit l x k hlt hs.out hb
          clear hs ho
          go_wp2
          go_ret
          exact ⟨ret_bool HM.out.symm, rfl⟩
      · have HM : Hid (hasF l x = false) := has_over l x k hlt hs.out
        clear hs ho
        go_wp2
        go_ret
        exact ⟨ret_bool HM.out.symm, rfl⟩

theorem infoS : (Tryz.prog.info? 9).map (fun i => (i.zero, i.size, i.bytes)) = some (some (.string ⟨#[]⟩), 1, 16) := by kernel_rfl
theorem strs_snoc (l : List ByteArray) (x : ByteArray) : strs (l ++ [x]) = strs l ++ [.string x] := by simp [strs]

/-- What an append to a list of texts leaves, in the form that the walk wants. -/
theorem rowS_snoc (l : List ByteArray) (x : ByteArray) : (⟨(rowS l).e, (rowS l).size, (rowS l).n + 1, (rowS l).xs ++ [.string x]⟩ : Row) = rowS (l ++ [x]) := by
  simp [rowS, strs_snoc]

set_option maxHeartbeats 400000 in
set_option maxRecDepth 100000 in
theorem addLabel_any (b t o : Nat) (pre post : List Value) (d : Db) (H : Nat → Hd) (x : ByteArray) (w : World) (h : DbIs w b t pre post d H) (ho : pre.length = o) (hl : d.labels.length ≤ 1073741824) :
    Calls Tryz.prog 112 #[.pointer (some ⟨b, o, none⟩), .string x] w fun e w' => e = .returned (.tuple #[]) ∧ ∃ H', DbIs w' b t pre post { d with labels := d.labels ++ [x] } H' ∧ Turned b w H w' H' := by
  obtain ⟨i0, hi, hz0, hz1, hz2⟩ := info_parts infoS
  obtain ⟨q0, q1, q2, q3, q4, q5, q6, q7, q8, q9, q10, q11, q12⟩ := h.cells o ho
  have hfr := h.free
  have hbw := h.lt
  have hA := h.still ((Kept.refl [] w).alloc (.cells #[.string x] 9))
  have hownA := hA.own 0
  go_enter Tryz.func112, Tryz.ntmps112
  go_wp2_with (at_builtin; refine wpList_append_row _ rfl (.tmp 8) (.tmp 10) 22 rfl i0 (.string ⟨#[]⟩) 16 (H 0) (rowS d.labels) Tryz.underlying22 hi hz0 hz1 hz2 rfl Nat.one_pos rfl hownA ⟨w.heap.size, 0, none⟩ 1 1 [.string x] rfl rfl ?c1 ?c2 Nat.one_pos ?c3 ?c4 ?_)
  case c1 => intro j u hj; match j, hj with | 0, hj => simp at hj; subst hj; simp [Addr.add]
  case c2 => intro u hu; simp at hu; subst hu; rfl
  case c3 => simp only [rowS]; unfold maxLen; omega
  case c4 => simp only [rowS]; omega
  · intro g cap' w1 hw1 hgr hfresh
    obtain ⟨k0, f0, HP⟩ := hA.app (d' := { d with labels := d.labels ++ [x] }) o 0 ho 0 (by omega) g cap' ((rowS d.labels).n + 1) _ hw1 (rowS_snoc d.labels x) hgr (by simpa using hfresh) (rows_labels d H _) (by omega) _ rfl (by simp [dbList, upd, rowS])
    simp only [Nat.add_zero] at k0 f0 HP
    clear hA hownA q0 q1 q2 q3 q4 q5 q6 q7 q8 q9 q10 q11 q12 hw1 hgr hfresh hfr
    go_wp2
    go_end0
    exact ⟨rfl, _, HP.out.1, HP.out.2.first ((Kept.refl [] w).alloc _)⟩

set_option maxHeartbeats 400000 in
set_option maxRecDepth 100000 in
theorem addTyped_any (b t o : Nat) (pre post : List Value) (d : Db) (H : Nat → Hd) (x : ByteArray) (w : World) (h : DbIs w b t pre post d H) (ho : pre.length = o) (hl : d.typed.length ≤ 1073741824) :
    Calls Tryz.prog 115 #[.pointer (some ⟨b, o, none⟩), .string x] w fun e w' => e = .returned (.tuple #[]) ∧ ∃ H', DbIs w' b t pre post { d with typed := d.typed ++ [x] } H' ∧ Turned b w H w' H' := by
  obtain ⟨i0, hi, hz0, hz1, hz2⟩ := info_parts infoS
  obtain ⟨q0, q1, q2, q3, q4, q5, q6, q7, q8, q9, q10, q11, q12⟩ := h.cells o ho
  have hfr := h.free
  have hbw := h.lt
  have hA := h.still ((Kept.refl [] w).alloc (.cells #[.string x] 9))
  have hownA := hA.own 4
  go_enter Tryz.func115, Tryz.ntmps115
  go_wp2_with (at_builtin; refine wpList_append_row _ rfl (.tmp 8) (.tmp 10) 22 rfl i0 (.string ⟨#[]⟩) 16 (H 4) (rowS d.typed) Tryz.underlying22 hi hz0 hz1 hz2 rfl Nat.one_pos rfl hownA ⟨w.heap.size, 0, none⟩ 1 1 [.string x] rfl rfl ?c1 ?c2 Nat.one_pos ?c3 ?c4 ?_)
  case c1 => intro j u hj; match j, hj with | 0, hj => simp at hj; subst hj; simp [Addr.add]
  case c2 => intro u hu; simp at hu; subst hu; rfl
  case c3 => simp only [rowS]; unfold maxLen; omega
  case c4 => simp only [rowS]; omega
  · intro g cap' w1 hw1 hgr hfresh
    obtain ⟨k0, f0, HP⟩ := hA.app (d' := { d with typed := d.typed ++ [x] }) o 4 ho 4 (by omega) g cap' ((rowS d.typed).n + 1) _ hw1 (rowS_snoc d.typed x) hgr (by simpa using hfresh) (rows_typed d H _) (by omega) _ rfl (by simp [dbList, upd, rowS])
    skip
    clear hA hownA q0 q1 q2 q3 q4 q5 q6 q7 q8 q9 q10 q11 q12 hw1 hgr hfresh hfr
    go_wp2
    go_end0
    exact ⟨rfl, _, HP.out.1, HP.out.2.first ((Kept.refl [] w).alloc _)⟩

end Go.Proofs.YtkancbaldeeijaaGreat

/- Package statements: the constants and the variables of a statement. -/
namespace Go.Proofs.YtkancbaldeeijaaGreat
open Go.RowKit

/-- How long the lists are. -/
structure Small (d : Db) (N : Nat) : Prop where
  labels : d.labels.length ≤ N
  constants : d.constants.length ≤ N
  variables : d.variables.length ≤ N
  active : d.active.length ≤ N
  typed : d.typed.length ≤ N
  blocks : d.blocks.length ≤ N
  sts : d.sts.length ≤ N
  rbl : d.rbl.length ≤ N
  symbols : d.symbols.length ≤ N
  proof : d.proof.length ≤ N

theorem rowS_more (l m : List ByteArray) : (⟨(rowS l).e, (rowS l).size, (rowS l).n + m.length, (rowS l).xs ++ strs m⟩ : Row) = rowS (l ++ m) := by
  simp [rowS, strs]
theorem strs_one (l : List ByteArray) : ∀ u ∈ strs l, u.oneCell' = true := by
  intro u hu
  simp only [strs, List.mem_map] at hu
  obtain ⟨x, _, rfl⟩ := hu
  rfl

set_option maxHeartbeats 400000 in
set_option maxRecDepth 100000 in
theorem addConstants_any (b t o : Nat) (pre post : List Value) (d : Db) (H : Nat → Hd) (w : World) (h : DbIs w b t pre post d H) (ho : pre.length = o) (hm : 0 < d.symbols.length) (hs : Small d 100000000) :
    Calls Tryz.prog 113 #[.pointer (some ⟨b, o, none⟩), .slice (H 8).ao d.symbols.length (H 8).cap] w fun e w' => e = .returned (.tuple #[]) ∧ ∃ H', DbIs w' b t pre post { d with constants := d.constants ++ d.symbols } H' ∧ Turned b w H w' H' := by
  obtain ⟨i0, hi, hz0, hz1, hz2⟩ := info_parts infoS
  obtain ⟨q0, q1, q2, q3, q4, q5, q6, q7, q8, q9, q10, q11, q12⟩ := h.cells o ho
  have hfr := h.free
  have hbw := h.lt
  have hown := h.own 1
  have hw8 : Owns w (H 8) (rowS d.symbols) := h.own 8
  have hl1 := hs.constants
  have hl2 := hs.symbols
  rcases hw8.ways with ⟨_, h0, _⟩ | ⟨g8, cur8, e8, _⟩
  · have : d.symbols.length = 0 := h0
    omega
  · rw [e8]
    have hsrc : Hid (∀ j u, (strs d.symbols)[j]? = some u → w.cell? ((⟨g8, 0, none⟩ : Addr).add j) = some u) := fun j u hj => by rw [addr_add]; exact hw8.cell e8 j u hj
    clear hw8
    go_enter Tryz.func113, Tryz.ntmps113
    go_wp2_with (at_builtin; refine wpList_append_row _ rfl (.tmp 8) (.tmp 9) 22 rfl i0 (.string ⟨#[]⟩) 16 (H 1) (rowS d.constants) Tryz.underlying22 hi hz0 hz1 hz2 rfl Nat.one_pos rfl hown ⟨g8, 0, none⟩ d.symbols.length (H 8).cap (strs d.symbols) rfl ?c0 hsrc.out (strs_one _) hm ?c3 ?c4 ?_)
    case c0 => simp [strs, rowS]
    case c3 => simp only [rowS]; unfold maxLen; omega
    case c4 => simp only [rowS]; omega
    · intro g cap' w1 hw1 hgr hfresh
      obtain ⟨k0, f0, HP⟩ := h.app (d' := { d with constants := d.constants ++ d.symbols }) o 1 ho 1 (by omega) g cap' ((rowS d.constants).n + d.symbols.length) _ hw1 (rowS_more d.constants d.symbols) hgr hfresh (rows_constants d H _) (by omega) _ rfl (by simp [dbList, upd, rowS])
      clear hown q0 q1 q2 q3 q4 q5 q6 q7 q8 q9 q10 q11 q12 hw1 hgr hfresh hfr hsrc
      go_wp2
      go_end0
      exact ⟨rfl, _, HP.out.1, HP.out.2⟩

def addVarsTo (v l : List ByteArray) : List ByteArray := l.foldl (fun v x => if hasF v x = true then v else v ++ [x]) v
def varsAt (d : Db) (k : Nat) : Db := { d with active := d.active ++ d.symbols, variables := addVarsTo d.variables (d.symbols.take k) }
theorem vars_snoc (v l : List ByteArray) (x : ByteArray) : addVarsTo v (l ++ [x]) = if hasF (addVarsTo v l) x = true then addVarsTo v l else addVarsTo v l ++ [x] := by
  unfold addVarsTo; rw [List.foldl_append]; rfl
theorem vars_len (v l : List ByteArray) : (addVarsTo v l).length ≤ v.length + l.length := by
  induction l generalizing v with
  | nil => simp [addVarsTo]
  | cons x l ih =>
    have := ih (if hasF v x = true then v else v ++ [x])
    have e : addVarsTo v (x :: l) = addVarsTo (if hasF v x = true then v else v ++ [x]) l := rfl
    rw [e]
    have h2 : (if hasF v x = true then v else v ++ [x]).length ≤ v.length + 1 := by split <;> simp
    simp only [List.length_cons]
    omega
theorem take_snoc {α : Type} (l : List α) (k : Nat) (h : k < l.length) : l.take (k + 1) = l.take k ++ [l[k]] := by simp

set_option maxHeartbeats 1000000 in
set_option maxRecDepth 100000 in
theorem addVariables_any (b t o : Nat) (pre post : List Value) (d : Db) (H : Nat → Hd) (w : World) (h : DbIs w b t pre post d H) (ho : pre.length = o) (hm : 0 < d.symbols.length) (hs : Small d 100000000) :
    Calls Tryz.prog 114 #[.pointer (some ⟨b, o, none⟩), .slice (H 8).ao d.symbols.length (H 8).cap] w fun e w' => e = .returned (.tuple #[]) ∧ ∃ H', DbIs w' b t pre post (varsAt d d.symbols.length) H' ∧ Turned b w H w' H' := by
  obtain ⟨i0, hi, hz0, hz1, hz2⟩ := info_parts infoS
  obtain ⟨q0, q1, q2, q3, q4, q5, q6, q7, q8, q9, q10, q11, q12⟩ := h.cells o ho
  have hfr := h.free
  have hbw := h.lt
  have hown := h.own 3
  have hw8 : Owns w (H 8) (rowS d.symbols) := h.own 8
  have hl1 := hs.active
  have hl2 := hs.symbols
  have hl3 := hs.variables
  rcases hw8.ways with ⟨_, h0, _⟩ | ⟨g8, cur8, e8, _⟩
  · have : d.symbols.length = 0 := h0
    omega
  · rw [e8]
    have hsrc : Hid (∀ j u, (strs d.symbols)[j]? = some u → w.cell? ((⟨g8, 0, none⟩ : Addr).add j) = some u) := fun j u hj => by rw [addr_add]; exact hw8.cell e8 j u hj
    clear hw8
    go_enter Tryz.func114, Tryz.ntmps114
    go_wp2_with (at_builtin; refine wpList_append_row _ rfl (.tmp 9) (.tmp 10) 22 rfl i0 (.string ⟨#[]⟩) 16 (H 3) (rowS d.active) Tryz.underlying22 hi hz0 hz1 hz2 rfl Nat.one_pos rfl hown ⟨g8, 0, none⟩ d.symbols.length (H 8).cap (strs d.symbols) rfl ?c0 hsrc.out (strs_one _) hm ?c3 ?c4 ?_)
    case c0 => simp [strs, rowS]
    case c3 => simp only [rowS]; unfold maxLen; omega
    case c4 => simp only [rowS]; omega
    · intro g cap' w1 hw1 hgr hfresh
      obtain ⟨k0, f0, HP⟩ := h.app (d' := varsAt d 0) o 3 ho 3 (by omega) g cap' ((rowS d.active).n + d.symbols.length) _ hw1 (rowS_more d.active d.symbols) hgr hfresh (rows_active d H _) (by omega) _ rfl (by simp [dbList, upd, rowS, varsAt, addVarsTo])
      clear hown q0 q1 q2 q3 q4 q5 q6 q7 q8 q9 q10 q11 q12 hw1 hgr hfresh hfr hsrc
      go_wp2
      go_loopg [4] d.symbols.length (fun g i wr => ∃ (k : Nat) (H1 : Nat → Hd), k ≤ d.symbols.length ∧ g = d.symbols.length - k ∧ i = .int .i64 k ∧ H1 8 = H 8 ∧ DbIs wr b t pre post (varsAt d k) H1 ∧ Turned b w H wr H1)
      case atStart => exact ⟨0, _, by omega, by omega, rfl, by simp [upd], HP.out.1, HP.out.2⟩
      case round =>
        obtain ⟨k, H1, hk, hg, rfl, h8, D, T⟩ := hrel
        clear HP k0 f0
        by_cases hlt : k < d.symbols.length
        · obtain ⟨q0, q1, q2, q3, q4, q5, q6, q7, q8, q9, q10, q11, q12⟩ := D.cells o ho
          have hw8 : Owns wr (H 8) (rowS d.symbols) := by have := D.own 8; rw [h8] at this; exact this
          have c1 := hw8.cell e8 k (.string d.symbols[k]) (strs_at d.symbols k hlt)
          have hvl : (varsAt d k).variables.length ≤ 1073741824 := by
            have := vars_len d.variables (d.symbols.take k)
            simp only [List.length_take] at this
            show (addVarsTo d.variables (d.symbols.take k)).length ≤ _
            omega
          have hfr := D.free
          have HS : Hid (varsAt d (k + 1) = if hasF (varsAt d k).variables d.symbols[k] = true then varsAt d k else { varsAt d k with variables := (varsAt d k).variables ++ [d.symbols[k]] }) := by
            show varsAt d (k + 1) = _
            unfold varsAt
            rw [take_snoc d.symbols k hlt, vars_snoc]
            simp only
            split <;> rfl
          generalize varsAt d k = dk at *
          generalize d.symbols[k] = x at *
          clear q0 q1 q3 q4 q5 q6 q7 q8 q9 q10 q11 q12 hw8
          cases hb : hasF dk.variables x
          · have HT : Hid (varsAt d (k + 1) = { dk with variables := dk.variables ++ [x] }) := by show varsAt d (k + 1) = _; rw [HS.out]; simp [hb]
            clear HS
            go_wp2_with fail
            go_quiet ((go_at_call 99; exact Calls.quiet_of_same (has_any (H1 2) dk.variables x _ (D.still ((Kept.refl [] _).drewN _) |>.own 2) hvl)))
            obtain ⟨wq, hwq⟩ : ∃ wq, wq = wr.drewN nq := ⟨_, rfl⟩
            rw [← hwq]
            have D2 : DbIs wq b t pre post dk H1 := by rw [hwq]; exact D.still ((Kept.refl [] _).drewN _)
            have T2 : Turned b w H wq H1 := by rw [hwq]; exact T.still ((Kept.refl [] _).drewN _)
            have c1q : wq.cell? ⟨g8, k, none⟩ = some (.string x) := by rw [hwq]; exact c1
            clear hwq c1 D T hfr q2
            obtain ⟨q0, q1, q2, q3, q4, q5, q6, q7, q8, q9, q10, q11, q12⟩ := D2.cells o ho
            have hfr := D2.free
            have hbq := D2.lt
            clear q0 q1 q3 q4 q5 q6 q7 q8 q9 q10 q11 q12
            have hD : Hid (DbIs (wq.alloc (.cells #[.string x] 9)).drew b t pre post dk H1) := D2.still ((Kept.refl [] wq).alloc _).drew
            have s2 : Hid (∀ j u, ([.string x] : List Value)[j]? = some u → (wq.alloc (.cells #[.string x] 9)).drew.cell? ((⟨wq.heap.size, 0, none⟩ : Addr).add j) = some u) := by
              intro j u hj
              have hk : (wq.alloc (.cells #[.string x] 9)).drew.heap[wq.heap.size]? = some (.cells #[.string x] 9 (0, 0)) := heap_alloc_new wq _
              rw [addr_add, cell_of hk]; simpa using hj
            have s3 : Hid (∀ u ∈ ([.string x] : List Value), u.oneCell' = true) := by intro u hu; simp at hu; subst hu; rfl
            have s4 : Hid ((rowS dk.variables).n + 1 ≤ maxLen) := by show _ ≤ _; simp only [rowS]; unfold maxLen; omega
            have s5 : Hid (((rowS dk.variables).n + 1) * 16 ≤ 140737488355328) := by show _ ≤ _; simp only [rowS]; omega
            go_wp2_with fail
            go_region_law (refine step_append_row rfl (.tmp 34) (.tmp 39) 22 rfl i0 (.string ⟨#[]⟩) 16 (H1 2) (rowS dk.variables) Tryz.underlying22 hi hz0 hz1 hz2 rfl Nat.one_pos (by simp [Act.eval] <;> rfl) (hD.out.own 2) ⟨wq.heap.size, 0, none⟩ 1 1 [.string x] (by simp [Act.eval]) rfl s2.out s3.out Nat.one_pos s4.out s5.out ?_; intro g cap' w1 hw1 hgr hfresh; obtain ⟨k5, f5, HP⟩ := hD.out.app (d' := { dk with variables := dk.variables ++ [x] }) o 2 ho 2 (by omega) g cap' ((rowS dk.variables).n + 1) _ hw1 (rowS_snoc dk.variables x) hgr (by simpa using hfresh) (rows_variables dk H1 _) (by omega) _ rfl (by simp [dbList, upd, rowS]); clear hw1 hgr hfresh)
            all_goals go_wp2
            all_goals
              go_roundg (d.symbols.length - (k + 1))
              case measure => omega
              case rel => exact ⟨k + 1, _, by omega, rfl, by go_num, by simp [upd, h8], by rw [HT.out]; exact HP.out.1, T2.trans (HP.out.2.first ((Kept.refl [] _).alloc _).drew)⟩
          · have HT : Hid (varsAt d (k + 1) = dk) := by show varsAt d (k + 1) = _; rw [HS.out]; simp [hb]
            clear HS
            go_wp2_with fail
            go_quiet ((go_at_call 99; exact Calls.quiet_of_same (has_any (H1 2) dk.variables x _ (D.still ((Kept.refl [] _).drewN _) |>.own 2) hvl)))
            go_wp2
            go_roundg (d.symbols.length - (k + 1))
            case measure => omega
            case rel => exact ⟨k + 1, H1, by omega, rfl, by go_num, h8, by rw [HT.out]; exact D.still ((Kept.refl [] _).drewN _), T.still ((Kept.refl [] _).drewN _)⟩
        · have e : k = d.symbols.length := by omega
          subst e
          go_wp2
          go_end0
          exact ⟨rfl, H1, D, T⟩

end Go.Proofs.YtkancbaldeeijaaGreat

/- Package statements: the small looks. -/
namespace Go.Proofs.YtkancbaldeeijaaGreat
open Go.RowKit

def labelB (n : Int) : Bool := (decide (97 ≤ n) && decide (n ≤ 122)) || (decide (65 ≤ n) && decide (n ≤ 90)) || (decide (48 ≤ n) && decide (n ≤ 57)) || n == 45 || n == 95 || n == 46
def isLabelF (s : ByteArray) : Bool := (List.range s.size).all (fun i => labelB (byteAt s i))

set_option maxHeartbeats 1000000 in
theorem isLabelByte_any (n : Int) (w : World) :
    Calls Tryz.prog 126 #[.int .u8 n] w fun e w' => e = .returned (.bool (labelB n)) ∧ w' = w := by
  by_cases h1 : (97 ≤ n ∧ n ≤ 122) ∨ (65 ≤ n ∧ n ≤ 90) ∨ (48 ≤ n ∧ n ≤ 57)
  · have HL : Hid (labelB n = true) := by show labelB n = true; simp only [labelB, Bool.or_eq_true, Bool.and_eq_true, decide_eq_true_eq]; omega
    rcases h1 with h1 | h1 | h1
    all_goals
      go_enter Tryz.func126, Tryz.ntmps126
      go_wp2
      go_ret
      exact ⟨ret_bool HL.out.symm, rfl⟩
  · have HL : Hid (labelB n = (n == 45 || n == 95 || n == 46)) := by
      show labelB n = _
      have e1 : (decide (97 ≤ n) && decide (n ≤ 122)) = false := by simp; omega
      have e2 : (decide (65 ≤ n) && decide (n ≤ 90)) = false := by simp; omega
      have e3 : (decide (48 ≤ n) && decide (n ≤ 57)) = false := by simp; omega
      simp only [labelB, e1, e2, e3, Bool.false_or]
    go_enter Tryz.func126, Tryz.ntmps126
    go_wp2
    all_goals go_ret
    all_goals (refine ⟨ret_bool ?_, rfl⟩; first | rfl | (rw [HL.out]; done) | (rw [HL.out]; simp [*]; done))

theorem all_no {n : Nat} {p : Nat → Bool} (i : Nat) (h : i < n) (hp : p i = false) : (List.range n).all p = false := by
  rw [List.all_eq_false]; exact ⟨i, by simpa using h, by simp [hp]⟩
theorem all_yes {n : Nat} {p : Nat → Bool} (h : ∀ i, i < n → p i = true) : (List.range n).all p = true := by
  rw [List.all_eq_true]; intro i hi; exact h i (by simpa using hi)

set_option maxHeartbeats 400000 in
theorem isLabel_any (s : ByteArray) (w : World) (hs : s.size ≤ 1073741824) :
    Calls Tryz.prog 111 #[.string s] w fun e w' => e = .returned (.bool (isLabelF s)) ∧ w' = w := by
  go_enter Tryz.func111, Tryz.ntmps111
  go_wp2
  go_loopg [3] s.size (fun g i wr => ∃ k : Nat, k ≤ s.size ∧ g = s.size - k ∧ i = .int .i64 k ∧ Hid (∀ i, i < k → labelB (byteAt s i) = true) ∧ wr = w)
  case atStart => exact ⟨0, by omega, by omega, rfl, fun i h => by omega, rfl⟩
  case round =>
    obtain ⟨k, hk, hg, rfl, hall, rfl⟩ := hrel
    by_cases hlt : k < s.size
    · cases hb : labelB (s[k].toNat : Int)
      · have HY : Hid (isLabelF s = false) := all_no k hlt (by rw [byteAt_of s k hlt]; exact hb)
        go_wp2_with fail
        refine (isLabelByte_any _ _).mono ?_
        rintro e w1 ⟨rfl, rfl⟩
        go_wp2
        go_ret
        exact ⟨ret_bool HY.out.symm, rfl⟩
      · go_wp2_with fail
        refine (isLabelByte_any _ _).mono ?_
        rintro e w1 ⟨rfl, rfl⟩
        go_wp2
        go_roundg (s.size - (k + 1))
        case measure => omega
        case rel =>
          refine ⟨k + 1, by omega, rfl, by go_num, ?_, rfl⟩
          intro i hi
          by_cases e : i = k
          · subst e; rw [byteAt_of s i hlt]; exact hb
          · exact hall.out i (by omega)
    · have HY : Hid (isLabelF s = true) := all_yes (fun i hi => hall.out i (by omega))
      go_wp2
      go_ret
      exact ⟨ret_bool HY.out.symm, rfl⟩

theorem isActive_any (b t o : Nat) (pre post : List Value) (d : Db) (H : Nat → Hd) (x : ByteArray) (w : World) (h : DbIs w b t pre post d H) (ho : pre.length = o) (hl : d.active.length ≤ 1073741824) :
    Calls Tryz.prog 117 #[.pointer (some ⟨b, o, none⟩), .string x] w fun e w' => e = .returned (.bool (hasF d.active x)) ∧ w' = w := by
  obtain ⟨q0, q1, q2, q3, q4, q5, q6, q7, q8, q9, q10, q11, q12⟩ := h.cells o ho
  go_enter Tryz.func117, Tryz.ntmps117
  go_wp2_with fail
  refine (has_any (H 3) d.active x _ (by exact h.own 3) hl).mono ?_
  rintro e w1 ⟨rfl, rfl⟩
  go_wp2
  go_ret
  exact ⟨rfl, rfl⟩

theorem isConstant_any (b t o : Nat) (pre post : List Value) (d : Db) (H : Nat → Hd) (x : ByteArray) (w : World) (h : DbIs w b t pre post d H) (ho : pre.length = o) (hl : d.constants.length ≤ 1073741824) :
    Calls Tryz.prog 118 #[.pointer (some ⟨b, o, none⟩), .string x] w fun e w' => e = .returned (.bool (hasF d.constants x)) ∧ w' = w := by
  obtain ⟨q0, q1, q2, q3, q4, q5, q6, q7, q8, q9, q10, q11, q12⟩ := h.cells o ho
  go_enter Tryz.func118, Tryz.ntmps118
  go_wp2_with fail
  refine (has_any (H 1) d.constants x _ (by exact h.own 1) hl).mono ?_
  rintro e w1 ⟨rfl, rfl⟩
  go_wp2
  go_ret
  exact ⟨rfl, rfl⟩

theorem isTyped_any (b t o : Nat) (pre post : List Value) (d : Db) (H : Nat → Hd) (x : ByteArray) (w : World) (h : DbIs w b t pre post d H) (ho : pre.length = o) (hl : d.typed.length ≤ 1073741824) :
    Calls Tryz.prog 119 #[.pointer (some ⟨b, o, none⟩), .string x] w fun e w' => e = .returned (.bool (hasF d.typed x)) ∧ w' = w := by
  obtain ⟨q0, q1, q2, q3, q4, q5, q6, q7, q8, q9, q10, q11, q12⟩ := h.cells o ho
  go_enter Tryz.func119, Tryz.ntmps119
  go_wp2_with fail
  refine (has_any (H 4) d.typed x _ (by exact h.own 4) hl).mono ?_
  rintro e w1 ⟨rfl, rfl⟩
  go_wp2
  go_ret
  exact ⟨rfl, rfl⟩

def isTakenF (d : Db) (x : ByteArray) : Bool := hasF d.labels x || hasF d.constants x || hasF d.variables x
def isTakenVF (d : Db) (x : ByteArray) : Bool := hasF d.labels x || hasF d.constants x || hasF d.active x

set_option maxHeartbeats 400000 in
theorem isTaken_any (b t o : Nat) (pre post : List Value) (d : Db) (H : Nat → Hd) (x : ByteArray) (w : World) (h : DbIs w b t pre post d H) (ho : pre.length = o) (hs : Small d 1073741824) :
    Calls Tryz.prog 100 #[.pointer (some ⟨b, o, none⟩), .string x] w fun e w' => e = .returned (.bool (isTakenF d x)) ∧ w' = w := by
  obtain ⟨q0, q1, q2, q3, q4, q5, q6, q7, q8, q9, q10, q11, q12⟩ := h.cells o ho
  cases h1 : hasF d.labels x
  · cases h2 : hasF d.constants x
    · have HT : Hid (isTakenF d x = hasF d.variables x) := by show isTakenF d x = _; simp [isTakenF, h1, h2]
      go_enter Tryz.func100, Tryz.ntmps100
      go_wp2_with fail
      refine (has_any (H 0) d.labels x _ (by exact h.own 0) hs.labels).mono ?_
      rintro e w1 ⟨rfl, rfl⟩
      go_wp2_with fail
      refine (has_any (H 1) d.constants x _ (by exact h.own 1) hs.constants).mono ?_
      rintro e w1 ⟨rfl, rfl⟩
      go_wp2_with fail
      refine (has_any (H 2) d.variables x _ (by exact h.own 2) hs.variables).mono ?_
      rintro e w1 ⟨rfl, rfl⟩
      go_wp2
      go_ret
      exact ⟨ret_bool (by rw [HT.out]), rfl⟩
    · have HT : Hid (isTakenF d x = true) := by show isTakenF d x = _; simp [isTakenF, h1, h2]
      go_enter Tryz.func100, Tryz.ntmps100
      go_wp2_with fail
      refine (has_any (H 0) d.labels x _ (by exact h.own 0) hs.labels).mono ?_
      rintro e w1 ⟨rfl, rfl⟩
      go_wp2_with fail
      refine (has_any (H 1) d.constants x _ (by exact h.own 1) hs.constants).mono ?_
      rintro e w1 ⟨rfl, rfl⟩
      go_wp2
      go_ret
      exact ⟨ret_bool (by rw [HT.out]), rfl⟩
  · have HT : Hid (isTakenF d x = true) := by show isTakenF d x = _; simp [isTakenF, h1]
    go_enter Tryz.func100, Tryz.ntmps100
    go_wp2_with fail
    refine (has_any (H 0) d.labels x _ (by exact h.own 0) hs.labels).mono ?_
    rintro e w1 ⟨rfl, rfl⟩
    go_wp2
    go_ret
    exact ⟨ret_bool (by rw [HT.out]), rfl⟩

set_option maxHeartbeats 400000 in
theorem isTakenV_any (b t o : Nat) (pre post : List Value) (d : Db) (H : Nat → Hd) (x : ByteArray) (w : World) (h : DbIs w b t pre post d H) (ho : pre.length = o) (hs : Small d 1073741824) :
    Calls Tryz.prog 101 #[.pointer (some ⟨b, o, none⟩), .string x] w fun e w' => e = .returned (.bool (isTakenVF d x)) ∧ w' = w := by
  obtain ⟨q0, q1, q2, q3, q4, q5, q6, q7, q8, q9, q10, q11, q12⟩ := h.cells o ho
  cases h1 : hasF d.labels x
  · cases h2 : hasF d.constants x
    · have HT : Hid (isTakenVF d x = hasF d.active x) := by show isTakenVF d x = _; simp [isTakenVF, h1, h2]
      go_enter Tryz.func101, Tryz.ntmps101
      go_wp2_with fail
      refine (has_any (H 0) d.labels x _ (by exact h.own 0) hs.labels).mono ?_
      rintro e w1 ⟨rfl, rfl⟩
      go_wp2_with fail
      refine (has_any (H 1) d.constants x _ (by exact h.own 1) hs.constants).mono ?_
      rintro e w1 ⟨rfl, rfl⟩
      go_wp2_with fail
      refine (has_any (H 3) d.active x _ (by exact h.own 3) hs.active).mono ?_
      rintro e w1 ⟨rfl, rfl⟩
      go_wp2
      go_ret
      exact ⟨ret_bool (by rw [HT.out]), rfl⟩
    · have HT : Hid (isTakenVF d x = true) := by show isTakenVF d x = _; simp [isTakenVF, h1, h2]
      go_enter Tryz.func101, Tryz.ntmps101
      go_wp2_with fail
      refine (has_any (H 0) d.labels x _ (by exact h.own 0) hs.labels).mono ?_
      rintro e w1 ⟨rfl, rfl⟩
      go_wp2_with fail
      refine (has_any (H 1) d.constants x _ (by exact h.own 1) hs.constants).mono ?_
      rintro e w1 ⟨rfl, rfl⟩
      go_wp2
      go_ret
      exact ⟨ret_bool (by rw [HT.out]), rfl⟩
  · have HT : Hid (isTakenVF d x = true) := by show isTakenVF d x = _; simp [isTakenVF, h1]
    go_enter Tryz.func101, Tryz.ntmps101
    go_wp2_with fail
    refine (has_any (H 0) d.labels x _ (by exact h.own 0) hs.labels).mono ?_
    rintro e w1 ⟨rfl, rfl⟩
    go_wp2
    go_ret
    exact ⟨ret_bool (by rw [HT.out]), rfl⟩

theorem inBlock_any (b t o : Nat) (pre post : List Value) (d : Db) (H : Nat → Hd) (w : World) (h : DbIs w b t pre post d H) (ho : pre.length = o) :
    Calls Tryz.prog 62 #[.pointer (some ⟨b, o, none⟩)] w fun e w' => e = .returned (.bool (decide (0 < d.blocks.length))) ∧ w' = w := by
  obtain ⟨q0, q1, q2, q3, q4, q5, q6, q7, q8, q9, q10, q11, q12⟩ := h.cells o ho
  go_enter Tryz.func62, Tryz.ntmps62
  go_wp2
  go_ret
  exact ⟨rfl, rfl⟩

def openF (d : Db) : Bool := d.kind != 0 || decide (0 < d.blocks.length)

theorem open_any (b t o : Nat) (pre post : List Value) (d : Db) (H : Nat → Hd) (w : World) (h : DbIs w b t pre post d H) (ho : pre.length = o) :
    Calls Tryz.prog 50 #[.pointer (some ⟨b, o, none⟩)] w fun e w' => e = .returned (.bool (openF d)) ∧ w' = w := by
  obtain ⟨q0, q1, q2, q3, q4, q5, q6, q7, q8, q9, q10, q11, q12⟩ := h.cells o ho
  cases hk : (d.kind != 0)
  · have HT : Hid (openF d = decide (0 < d.blocks.length)) := by show openF d = _; simp only [openF, hk, Bool.false_or]
    go_enter Tryz.func50, Tryz.ntmps50
    go_wp2_with fail
    refine (inBlock_any b t o pre post d H _ h ho).mono ?_
    rintro e w1 ⟨rfl, rfl⟩
    go_wp2
    go_ret
    exact ⟨ret_bool (by rw [HT.out]), rfl⟩
  · have HT : Hid (openF d = true) := by show openF d = _; simp only [openF, hk, Bool.true_or]
    go_enter Tryz.func50, Tryz.ntmps50
    go_wp2_with fail
    go_ret
    exact ⟨ret_bool (by rw [HT.out]), rfl⟩

def leastF (d : Db) : Int := if (d.kind == 1) = true ∨ (d.kind == 2) = true then 2 else 1

theorem least_any (b t o : Nat) (pre post : List Value) (d : Db) (H : Nat → Hd) (w : World) (h : DbIs w b t pre post d H) (ho : pre.length = o) :
    Calls Tryz.prog 97 #[.pointer (some ⟨b, o, none⟩)] w fun e w' => e = .returned (.int .i64 (leastF d)) ∧ w' = w := by
  obtain ⟨q0, q1, q2, q3, q4, q5, q6, q7, q8, q9, q10, q11, q12⟩ := h.cells o ho
  cases h4 : (d.kind == 1)
  · cases h5 : (d.kind == 2)
    all_goals
      have HT : Hid (leastF d = if (d.kind == 1) = true ∨ (d.kind == 2) = true then 2 else 1) := rfl
      go_enter Tryz.func97, Tryz.ntmps97
      go_wp2
      go_ret
      exact ⟨ret_int (by rw [HT.out, h4, h5]; simp), rfl⟩
  · have HT : Hid (leastF d = 2) := by show leastF d = _; simp only [leastF, h4]; simp
    go_enter Tryz.func97, Tryz.ntmps97
    go_wp2
    go_ret
    exact ⟨ret_int (by rw [HT.out]), rfl⟩

/-- The first c texts, as Go's own 'first' has them. -/
theorem first_any (hd : Hd) (l : List ByteArray) (c : Nat) (w : World) (ho : Owns w hd (rowS l)) (hc : c ≤ 1073741824) :
    Calls Tryz.prog 110 #[.slice hd.ao l.length hd.cap, .int .i64 c] w fun e w' => e = .returned (.slice hd.ao (if c ≤ l.length then c else l.length) hd.cap) ∧ w' = w := by
  obtain ⟨ao, cap⟩ := hd
  by_cases hle : c ≤ l.length
  · rcases ho.ways with ⟨e0, h0, _⟩ | ⟨g, cur, e1, e2, e3, e4, _⟩
    · have h0' : l.length = 0 := h0
      have hc0 : c = 0 := by omega
      subst hc0
      injection e0 with e0 e2
      subst e0 e2
      simp only [if_pos hle]
      rw [h0']
      clear ho h0 hle h0' hc
      go_enter Tryz.func110, Tryz.ntmps110
      go_wp2
      go_ret
      exact ⟨rfl, rfl⟩
    · simp only at e1 e3 e4
      have e3' : l.length ≤ cap := e3
      unfold maxLen at e4
      subst e1
      simp only [if_pos hle]
      go_enter Tryz.func110, Tryz.ntmps110
      go_wp2
      go_ret
      exact ⟨rfl, rfl⟩
  · simp only [if_neg hle]
    go_enter Tryz.func110, Tryz.ntmps110
    go_wp2
    go_ret
    exact ⟨rfl, rfl⟩

/-- What is left of an owned slice when it is cut. -/
theorem Owns.cut {w : World} {h : Hd} {l : List ByteArray} (o : Owns w h (rowS l)) (c : Nat) (hc : c ≤ l.length) : Owns w h (rowS (l.take c)) := by
  have hlen : (l.take c).length = c := by simp; omega
  rcases o.ways with ⟨e0, h0, _⟩ | ⟨g, cur, e1, e2, e3, e4, e5, e6⟩
  · have h0' : l.length = 0 := h0
    have : c = 0 := by omega
    subst this
    subst e0
    exact ⟨by simp [rowS, strs], Or.inl ⟨by simp [rowS], by simp [rowS]⟩⟩
  · obtain ⟨ao, cap⟩ := h
    simp only at e1 e3 e4 e5
    subst e1
    refine ⟨by simp [rowS, strs], Or.inr ⟨g, cap, cur, rfl, Nat.zero_le _, e2, ?_, e4, e5, ?_⟩⟩
    · have : l.length ≤ cap := e3
      simp only [rowS]; omega
    · have e6' : cur.toList.take (l.length * 1) = strs l := e6
      simp only [rowS, hlen]
      have : strs (l.take c) = (strs l).take c := by simp [strs, List.map_take]
      rw [this, ← e6', List.take_take]
      congr 1
      omega

end Go.Proofs.YtkancbaldeeijaaGreat

/- Package statements: blocks begin and end. -/
namespace Go.Proofs.YtkancbaldeeijaaGreat
open Go.RowKit

theorem infoB : (Tryz.prog.info? 166).map (fun i => (i.zero, i.size, i.bytes)) = some (some (.agg #[.int .i64 0, .int .i64 0]), 2, 16) := by kernel_rfl
theorem pairs_snoc (l : List (Nat × Nat)) (x : Nat × Nat) : pairs (l ++ [x]) = pairs l ++ [.int .i64 x.1, .int .i64 x.2] := by simp [pairs]
theorem rowB_snoc (l : List (Nat × Nat)) (x : Nat × Nat) : (⟨(rowB l).e, (rowB l).size, (rowB l).n + 1, (rowB l).xs ++ [.int .i64 x.1, .int .i64 x.2]⟩ : Row) = rowB (l ++ [x]) := by
  simp [rowB, pairs_snoc]

set_option maxHeartbeats 800000 in
set_option maxRecDepth 100000 in
theorem beginBlock_any (b t o : Nat) (pre post : List Value) (d : Db) (H : Nat → Hd) (w : World) (h : DbIs w b t pre post d H) (ho : pre.length = o) (hl : d.blocks.length ≤ 1073741824) :
    Calls Tryz.prog 92 #[.pointer (some ⟨b, o, none⟩)] w fun e w' => e = .returned (.tuple #[]) ∧ ∃ H', DbIs w' b t pre post { d with blocks := d.blocks ++ [(d.active.length, d.typed.length)] } H' ∧ Turned b w H w' H' := by
  obtain ⟨i0, hi, hz0, hz1, hz2⟩ := info_parts infoB
  obtain ⟨q0, q1, q2, q3, q4, q5, q6, q7, q8, q9, q10, q11, q12⟩ := h.cells o ho
  have hfr := h.free
  have hbw := h.lt
  have hD : Hid (DbIs (w.alloc (.cells #[.int .i64 d.active.length, .int .i64 d.typed.length] 166)).drew b t pre post d H) := h.still ((Kept.refl [] w).alloc _).drew
  have s2 : Hid (∀ j u, ([.int .i64 d.active.length, .int .i64 d.typed.length] : List Value)[j]? = some u → (w.alloc (.cells #[.int .i64 d.active.length, .int .i64 d.typed.length] 166)).drew.cell? ((⟨w.heap.size, 0, none⟩ : Addr).add j) = some u) := by
    intro j u hj
    rw [addr_add]
    have hk : (w.alloc (.cells #[.int .i64 d.active.length, .int .i64 d.typed.length] 166)).drew.heap[w.heap.size]? = some (.cells #[.int .i64 d.active.length, .int .i64 d.typed.length] 166 (0, 0)) := heap_alloc_new _ _
    rw [cell_of hk]; simpa using hj
  have s3 : Hid (∀ u ∈ ([.int .i64 d.active.length, .int .i64 d.typed.length] : List Value), u.oneCell' = true) := by
    intro u hu
    simp at hu
    rcases hu with rfl | rfl <;> rfl
  have s4 : Hid ((rowB d.blocks).n + 1 ≤ maxLen) := by show _ ≤ _; simp only [rowB]; unfold maxLen; omega
  have s5 : Hid (((rowB d.blocks).n + 1) * 16 ≤ 140737488355328) := by show _ ≤ _; simp only [rowB]; omega
  clear h
  go_enter Tryz.func92, Tryz.ntmps92
  go_wp2_with fail
  go_region_law (refine step_append_row rfl (.tmp 6) (.tmp 18) 86 rfl i0 (.agg #[.int .i64 0, .int .i64 0]) 16 (H 5) (rowB d.blocks) Tryz.underlying86 hi hz0 hz1 hz2 rfl Nat.two_pos (by simp [Act.eval] <;> rfl) (hD.out.own 5) ⟨w.heap.size, 0, none⟩ 1 1 [.int .i64 d.active.length, .int .i64 d.typed.length] (by simp [Act.eval]) rfl s2.out s3.out Nat.one_pos s4.out s5.out ?_; intro g cap' w1 hw1 hgr hfresh; obtain ⟨k5, f5, HP⟩ := hD.out.app (d' := { d with blocks := d.blocks ++ [(d.active.length, d.typed.length)] }) o 5 ho 5 (by omega) g cap' ((rowB d.blocks).n + 1) _ hw1 (rowB_snoc d.blocks (d.active.length, d.typed.length)) hgr (by simpa using hfresh) (rows_blocks d H _) (by omega) _ rfl (by simp [dbList, upd, rowB]); clear hw1 hgr hfresh)
  all_goals go_wp2
  all_goals go_end0
  all_goals exact ⟨rfl, _, HP.out.1, HP.out.2.first ((Kept.refl [] w).alloc _).drew⟩

end Go.Proofs.YtkancbaldeeijaaGreat
