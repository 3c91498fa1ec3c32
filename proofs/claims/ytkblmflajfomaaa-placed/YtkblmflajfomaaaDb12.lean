/- Package statements: Take. -/
import Derived.Test.YtkblmflajfomaaaDb11
namespace Go.Proofs.Ytkblmflajfomaaa
open Go.RowKit

set_option maxHeartbeats 3000000 in
set_option maxRecDepth 100000 in
theorem takeSym_any (b t o : Nat) (pre post : List Value) (d : Db) (H : Nat → Hd) (x : ByteArray) (w : World) (h : DbIs w b t pre post d H) (ho : pre.length = o) (hs : Small d 100000000) (hx : x.size ≤ 1073741824) (k0 : (d.kind == 0) = false) (k1 : (d.kind == 1) = false) (e46 : (x.toList == [36, 46]) = false) (e61 : (x.toList == [36, 61]) = false) :
    Calls Try.prog 42 #[.pointer (some ⟨b, o, none⟩), .string x] w fun e w' => e = .returned (.int .i64 (takeF d x).1) ∧ ∃ H', DbIs w' b t pre post (takeF d x).2 H' ∧ Turned b w H w' H' := by
  obtain ⟨q0, q1, q2, q3, q4, q5, q6, q7, q8⟩ := h.cells o ho
  have hfr := h.free
  cases hd : dollarF x
  · cases hp : d.inProof
    · rw [hp] at q8
      cases hc : (checkSymbolF d x == 0)
      · have HT : Hid (takeF d x = (checkSymbolF d x, d)) := by show takeF d x = _; simp [takeF, k0, k1, e46, e61, hd, hp, hc]
        go_enter Try.func42, Try.ntmps42
        go_wp2_with (first | (go_at_call 49; refine (dollar_any x _ hx).mono ?_; rintro e w1 ⟨rfl, rfl⟩) | (go_at_call 54; refine (checkSymbol_any b t o pre post d H x _ (by exact h) ho (hs.mono (by omega))).mono ?_; rintro e w1 ⟨rfl, rfl⟩))
        go_ret
        exact ⟨ret_int (by rw [HT.out]), H, by rw [HT.out]; exact h, Turned.refl _ _ _⟩
      · have HT : Hid (takeF d x = (0, { d with symbols := d.symbols ++ [x] })) := by show takeF d x = _; simp [takeF, k0, k1, e46, e61, hd, hp, hc]
        have hc0 : Hid (checkSymbolF d x = 0) := (show checkSymbolF d x = 0 by simpa using hc)
        have hsl := hs.symbols
        obtain ⟨i0, hi0, hz0, hz1, hz2⟩ := info_parts infoS
        have hA := h.still ((Kept.refl [] w).alloc (.cells #[.string x] 9))
        have hownA := hA.own 6 (by omega)
        have hbw := h.lt
        go_enter Try.func42, Try.ntmps42
        go_wp2_with (first | (go_at_call 49; refine (dollar_any x _ hx).mono ?_; rintro e w1 ⟨rfl, rfl⟩) | (go_at_call 54; refine (checkSymbol_any b t o pre post d H x _ (by exact h) ho (hs.mono (by omega))).mono ?_; rintro e w1 ⟨rfl, rfl⟩) | (at_builtin; refine wpList_append_row _ rfl (.tmp 59) (.tmp 61) 22 rfl i0 (.string ⟨#[]⟩) 16 (H 6) (rowS d.symbols) Try.underlying22 hi0 hz0 hz1 hz2 rfl Nat.one_pos rfl (by exact hownA) ⟨_, 0, none⟩ 1 1 [.string x] rfl rfl ?c1 ?c2 Nat.one_pos ?c3 ?c4 ?_))
        case c1 => intro j u hj; match j, hj with | 0, hj => simp at hj; subst hj; simp [Addr.add]
        case c2 => intro u hu; simp at hu; subst hu; rfl
        case c3 => simp only [rowS]; unfold maxLen; omega
        case c4 => simp only [rowS]; omega
        intro g cap' w1 hw1 hgr hfresh
        have hk0 := (hgr.block b (by simp; omega) (fun e => h.off 6 (by omega) e.symm)).trans hA.blk
        have k0 : w1.cell? ⟨b, o + 7, none⟩ = some (.slice (H 6).ao d.symbols.length (H 6).cap) := by
          rw [cell_of hk0]; exact (mid_get pre (dbList d H) post o 7 ho (by simp [dbList]))
        have f0 := free_of hk0 (o + 7)
        have P := hA.put (d' := { d with symbols := d.symbols ++ [x] }) o 7 ho 6 (by omega) ⟨some ⟨g, 0, none⟩, cap'⟩ (by rw [rowS_snoc] at hw1; exact hw1) hgr
          (by rcases hfresh with e | e
              · exact Or.inr (Or.inl e.symm)
              · exact Or.inr (Or.inr ⟨g, rfl, by simpa using e⟩))
          (rows_symbols d (d.symbols ++ [x]))
          (.slice (some ⟨g, 0, none⟩) ((rowS d.symbols).n + 1) cap') (by omega) (by simp [dbList, upd, rowS])
        have HP := (show Hid _ from P)
        clear P hA hownA q0 q1 q2 q3 q4 q5 q6 q7 q8 hw1 hgr hfresh hk0 hfr
        go_wp2
        go_ret
        exact ⟨ret_int (by rw [HT.out, hc0.out]), _, by rw [HT.out]; exact HP.out.1, HP.out.2.first ((Kept.refl [] _).alloc _)⟩
    · have HT : Hid (takeF d x = (0, d)) := by show takeF d x = _; simp [takeF, k0, k1, e46, e61, hd, hp]
      rw [hp] at q8
      go_enter Try.func42, Try.ntmps42
      go_wp2_with (first | (go_at_call 49; refine (dollar_any x _ hx).mono ?_; rintro e w1 ⟨rfl, rfl⟩) | (go_at_call 54; refine (checkSymbol_any b t o pre post d H x _ (by exact h) ho (hs.mono (by omega))).mono ?_; rintro e w1 ⟨rfl, rfl⟩))
      go_ret
      exact ⟨ret_int (by rw [HT.out]), H, by rw [HT.out]; exact h, Turned.refl _ _ _⟩
  · have HT : Hid (takeF d x = (8, d)) := by show takeF d x = _; simp [takeF, k0, k1, e46, e61, hd]
    go_enter Try.func42, Try.ntmps42
    go_wp2_with (first | (go_at_call 49; refine (dollar_any x _ hx).mono ?_; rintro e w1 ⟨rfl, rfl⟩) | (go_at_call 54; refine (checkSymbol_any b t o pre post d H x _ (by exact h) ho (hs.mono (by omega))).mono ?_; rintro e w1 ⟨rfl, rfl⟩))
    go_ret
    exact ⟨ret_int (by rw [HT.out]), H, by rw [HT.out]; exact h, Turned.refl _ _ _⟩


theorem dollar_eq (x : ByteArray) (h : (x.toList == [36, 61]) = true) : dollarF x = true := by
  have : x = ⟨#[36, 61]⟩ := bytes_ext (by rw [ByteArray.toList_mk [36, 61]]; simpa using h)
  rw [this]; decide +kernel

set_option maxHeartbeats 2000000 in
set_option maxRecDepth 100000 in
theorem takeEq_any (b t o : Nat) (pre post : List Value) (d : Db) (H : Nat → Hd) (x : ByteArray) (w : World) (h : DbIs w b t pre post d H) (ho : pre.length = o) (hx : x.size ≤ 1073741824) (k0 : (d.kind == 0) = false) (k1 : (d.kind == 1) = false) (e46 : (x.toList == [36, 46]) = false) (e61 : (x.toList == [36, 61]) = true) :
    Calls Try.prog 42 #[.pointer (some ⟨b, o, none⟩), .string x] w fun e w' => e = .returned (.int .i64 (takeF d x).1) ∧ ∃ H', DbIs w' b t pre post (takeF d x).2 H' ∧ Turned b w H w' H' := by
  obtain ⟨q0, q1, q2, q3, q4, q5, q6, q7, q8⟩ := h.cells o ho
  have hfr := h.free
  have hd := dollar_eq x e61
  cases k8 : (d.kind == 8)
  · have HT : Hid (takeF d x = (8, d)) := by show takeF d x = _; simp [takeF, k0, k1, e46, k8, hd]
    go_enter Try.func42, Try.ntmps42
    go_wp2_with (go_at_call 49; refine (dollar_any x _ hx).mono ?_; rintro e w1 ⟨rfl, rfl⟩)
    go_ret
    exact ⟨ret_int (by rw [HT.out]), H, by rw [HT.out]; exact h, Turned.refl _ _ _⟩
  · cases hp : d.inProof
    · have HT : Hid (takeF d x = beginProofF d) := by show takeF d x = _; simp only [takeF, k0, k1, e46, e61, k8, hp]; simp
      rw [hp] at q8
      go_enter Try.func42, Try.ntmps42
      go_wp2_with fail
      refine (beginProof_any b t o pre post d H _ (by exact h) ho).mono ?_
      rintro e w2 ⟨rfl, H2, D2, T2⟩
      go_wp2
      go_ret
      exact ⟨ret_int (by rw [HT.out]), H2, by rw [HT.out]; exact D2, T2⟩
    · have HT : Hid (takeF d x = (8, d)) := by show takeF d x = _; simp [takeF, k0, k1, e46, hp, hd]
      rw [hp] at q8
      go_enter Try.func42, Try.ntmps42
      go_wp2_with (go_at_call 49; refine (dollar_any x _ hx).mono ?_; rintro e w1 ⟨rfl, rfl⟩)
      go_ret
      exact ⟨ret_int (by rw [HT.out]), H, by rw [HT.out]; exact h, Turned.refl _ _ _⟩

set_option maxHeartbeats 2000000 in
set_option maxRecDepth 100000 in
theorem take_any (b t o : Nat) (pre post : List Value) (d : Db) (H : Nat → Hd) (x : ByteArray) (w : World) (h : DbIs w b t pre post d H) (ho : pre.length = o) (hs : Small d 100000000) (hx : x.size ≤ 1073741824) (hi : Inner d 100000000) :
    Calls Try.prog 42 #[.pointer (some ⟨b, o, none⟩), .string x] w fun e w' => e = .returned (.int .i64 (takeF d x).1) ∧ ∃ H', DbIs w' b t pre post (takeF d x).2 H' ∧ Turned b w H w' H' := by
  obtain ⟨q0, q1, q2, q3, q4, q5, q6, q7, q8⟩ := h.cells o ho
  have hfr := h.free
  cases k0 : (d.kind == 0)
  · cases k1 : (d.kind == 1)
    · cases e46 : (x.toList == [36, 46])
      · cases e61 : (x.toList == [36, 61])
        · exact takeSym_any b t o pre post d H x w h ho hs hx k0 k1 e46 e61
        · exact takeEq_any b t o pre post d H x w h ho hx k0 k1 e46 e61
      · have HT : Hid (takeF d x = endF d) := by show takeF d x = _; simp only [takeF, k0, k1, e46]; simp
        clear hi
        go_enter Try.func42, Try.ntmps42
        go_wp2_with fail
        refine (end_any b t o pre post d H _ (by exact h) ho hs).mono ?_
        rintro e w2 ⟨rfl, H2, D2, T2⟩
        go_wp2
        go_ret
        exact ⟨ret_int (by rw [HT.out]), H2, by rw [HT.out]; exact D2, T2⟩
    · have HT : Hid (takeF d x = takeKeywordF d x) := by show takeF d x = _; simp only [takeF, k0, k1]; simp
      clear hi
      go_enter Try.func42, Try.ntmps42
      go_wp2_with fail
      refine (takeKeyword_any b t o pre post d H x _ (by exact h) ho).mono ?_
      rintro e w2 ⟨rfl, H2, D2, T2⟩
      go_wp2
      go_ret
      exact ⟨ret_int (by rw [HT.out]), H2, by rw [HT.out]; exact D2, T2⟩
  · have HT : Hid (takeF d x = takeFirstF d x) := by show takeF d x = _; simp only [takeF, k0]; simp
    go_enter Try.func42, Try.ntmps42
    go_wp2_with fail
    refine (takeFirst_any b t o pre post d H x _ (by exact h) ho hs hx hi).mono ?_
    rintro e w2 ⟨rfl, H2, D2, T2⟩
    go_wp2
    go_ret
    exact ⟨ret_int (by rw [HT.out]), H2, by rw [HT.out]; exact D2, T2⟩


end Go.Proofs.Ytkblmflajfomaaa
