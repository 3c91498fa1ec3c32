/- Package statements: a statement's first word; Take. -/
import Derived.Test.YtkblmflajfomaaaDb10
namespace Go.Proofs.Ytkblmflajfomaaa
open Go.RowKit

theorem last_split {α : Type} {l : List α} {p : α} (h : l.getLast? = some p) : l = l.dropLast ++ [p] := by
  obtain ⟨ys, rfl⟩ := List.getLast?_eq_some_iff.1 h
  simp

/-- What the blocks remember is small, too. -/
def Inner (d : Db) (N : Nat) : Prop := ∀ p, p ∈ d.blocks → p.1 ≤ N ∧ p.2 ≤ N

set_option maxHeartbeats 3000000 in
set_option maxRecDepth 100000 in
theorem takeFirst_any (b t o : Nat) (pre post : List Value) (d : Db) (H : Nat → Hd) (x : ByteArray) (w : World) (h : DbIs w b t pre post d H) (ho : pre.length = o) (hs : Small d 100000000) (hx : x.size ≤ 1073741824) (hi : Inner d 100000000) :
    Calls Try.prog 50 #[.pointer (some ⟨b, o, none⟩), .string x] w fun e w' => e = .returned (.int .i64 (takeFirstF d x).1) ∧ ∃ H', DbIs w' b t pre post (takeFirstF d x).2 H' ∧ Turned b w H w' H' := by
  obtain ⟨q0, q1, q2, q3, q4, q5, q6, q7, q8⟩ := h.cells o ho
  have hfr := h.free
  cases e123 : (x.toList == [36, 123])
  · cases e125 : (x.toList == [36, 125])
    · cases e99 : (x.toList == [36, 99])
      · cases e118 : (x.toList == [36, 118])
        · cases e100 : (x.toList == [36, 100])
          · cases e102 : (x.toList == [36, 102])
            · cases e101 : (x.toList == [36, 101])
              · cases e97 : (x.toList == [36, 97])
                · cases e112 : (x.toList == [36, 112])
                  · have HT : Hid (takeFirstF d x = takeLabelF d x) := by show takeFirstF d x = _; simp only [takeFirstF, e123, e125, e99, e118, e100, e102, e101, e97, e112]; simp
                    go_enter Try.func50, Try.ntmps50
                    go_wp2_with fail
                    refine (takeLabel_any b t o pre post d H x _ (by exact h) ho hs hx).mono ?_
                    rintro e w2 ⟨rfl, H2, D2, T2⟩
                    go_wp2
                    go_ret
                    exact ⟨ret_int (by rw [HT.out]), H2, by rw [HT.out]; exact D2, T2⟩
                  · have HT : Hid (takeFirstF d x = (11, d)) := by show takeFirstF d x = _; simp only [takeFirstF, e123, e125, e99, e118, e100, e102, e101, e97, e112]; simp
                    go_enter Try.func50, Try.ntmps50
                    go_wp2
                    go_ret
                    exact ⟨ret_int (by rw [HT.out]), H, by rw [HT.out]; exact h, Turned.refl _ _ _⟩
                · have HT : Hid (takeFirstF d x = (11, d)) := by show takeFirstF d x = _; simp only [takeFirstF, e123, e125, e99, e118, e100, e102, e101, e97]; simp
                  go_enter Try.func50, Try.ntmps50
                  go_wp2
                  go_ret
                  exact ⟨ret_int (by rw [HT.out]), H, by rw [HT.out]; exact h, Turned.refl _ _ _⟩
              · have HT : Hid (takeFirstF d x = (11, d)) := by show takeFirstF d x = _; simp only [takeFirstF, e123, e125, e99, e118, e100, e102, e101]; simp
                go_enter Try.func50, Try.ntmps50
                go_wp2
                go_ret
                exact ⟨ret_int (by rw [HT.out]), H, by rw [HT.out]; exact h, Turned.refl _ _ _⟩
            · have HT : Hid (takeFirstF d x = (11, d)) := by show takeFirstF d x = _; simp only [takeFirstF, e123, e125, e99, e118, e100, e102]; simp
              go_enter Try.func50, Try.ntmps50
              go_wp2
              go_ret
              exact ⟨ret_int (by rw [HT.out]), H, by rw [HT.out]; exact h, Turned.refl _ _ _⟩
          · have HT : Hid (takeFirstF d x = (0, { d with kind := 4 })) := by show takeFirstF d x = _; simp only [takeFirstF, e123, e125, e99, e118, e100]; simp
            have HK := h.kind o ho 4
            go_enter Try.func50, Try.ntmps50
            go_wp2
            go_ret
            exact ⟨ret_int (by rw [HT.out]), H, by rw [HT.out]; exact HK.out.1, HK.out.2⟩
        · have HT : Hid (takeFirstF d x = (0, { d with kind := 3 })) := by show takeFirstF d x = _; simp only [takeFirstF, e123, e125, e99, e118]; simp
          have HK := h.kind o ho 3
          go_enter Try.func50, Try.ntmps50
          go_wp2
          go_ret
          exact ⟨ret_int (by rw [HT.out]), H, by rw [HT.out]; exact HK.out.1, HK.out.2⟩
      · by_cases hb0 : 0 < d.blocks.length
        · have HT : Hid (takeFirstF d x = (10, d)) := by show takeFirstF d x = _; simp only [takeFirstF, e123, e125, e99, hb0]; simp
          have hd0 : decide (0 < d.blocks.length) = true := by simpa using hb0
          clear hb0
          go_enter Try.func50, Try.ntmps50
          go_wp2_with (go_at_call 43; refine (inBlock_any b t o pre post d H _ (by exact h) ho).mono ?_; rintro e w1 ⟨rfl, rfl⟩)
          go_ret
          exact ⟨ret_int (by rw [HT.out]), H, by rw [HT.out]; exact h, Turned.refl _ _ _⟩
        · have HT : Hid (takeFirstF d x = (0, { d with kind := 2 })) := by show takeFirstF d x = _; simp only [takeFirstF, e123, e125, e99, hb0]; simp
          have hd0 : decide (0 < d.blocks.length) = false := by simpa using hb0
          have HK := h.kind o ho 2
          clear hb0
          go_enter Try.func50, Try.ntmps50
          go_wp2_with (go_at_call 43; refine (inBlock_any b t o pre post d H _ (by exact h) ho).mono ?_; rintro e w1 ⟨rfl, rfl⟩)
          go_ret
          exact ⟨ret_int (by rw [HT.out]), H, by rw [HT.out]; exact HK.out.1, HK.out.2⟩
    · rcases hbb : d.blocks.getLast? with _ | p
      · have hb0 : d.blocks = [] := by simpa using hbb
        have HT : Hid (takeFirstF d x = (9, d)) := by show takeFirstF d x = _; simp only [takeFirstF, e123, e125, hbb]; simp
        have hd0 : decide (0 < d.blocks.length) = false := by rw [hb0]; rfl
        clear hbb hb0
        go_enter Try.func50, Try.ntmps50
        go_wp2_with (go_at_call 43; refine (inBlock_any b t o pre post d H _ (by exact h) ho).mono ?_; rintro e w1 ⟨rfl, rfl⟩)
        go_ret
        exact ⟨ret_int (by rw [HT.out]), H, by rw [HT.out]; exact h, Turned.refl _ _ _⟩
      · have hb0 : d.blocks = d.blocks.dropLast ++ [p] := last_split hbb
        have HT : Hid (takeFirstF d x = (0, endBlockF d d.blocks.dropLast p)) := by show takeFirstF d x = _; simp only [takeFirstF, e123, e125, hbb]; simp
        have hd0 : decide (0 < d.blocks.length) = true := by rw [hb0]; simp
        have HB : Hid (d.blocks = d.blocks.dropLast ++ [p]) := hb0
        have hp := hi p (by rw [hb0]; simp)
        clear hbb hb0
        go_enter Try.func50, Try.ntmps50
        go_wp2_with (go_at_call 43; refine (inBlock_any b t o pre post d H _ (by exact h) ho).mono ?_; rintro e w1 ⟨rfl, rfl⟩)
        refine (endBlock_any b t o pre post d H d.blocks.dropLast p _ (by exact h) ho HB.out (hs.mono (by omega)) ⟨by omega, by omega⟩).mono ?_
        rintro e w2 ⟨rfl, D2, T2⟩
        go_wp2
        go_ret
        exact ⟨ret_int (by rw [HT.out]), H, by rw [HT.out]; exact D2, T2⟩
  · have HT : Hid (takeFirstF d x = (0, { d with blocks := d.blocks ++ [(d.active.length, d.typed.length)] })) := by show takeFirstF d x = _; simp only [takeFirstF, e123]; simp
    have hbl := hs.blocks
    go_enter Try.func50, Try.ntmps50
    go_wp2_with fail
    refine (beginBlock_any b t o pre post d H _ (by exact h) ho (by omega)).mono ?_
    rintro e w2 ⟨rfl, H2, D2, T2⟩
    go_wp2
    go_ret
    exact ⟨ret_int (by rw [HT.out]), H2, by rw [HT.out]; exact D2, T2⟩


end Go.Proofs.Ytkblmflajfomaaa
