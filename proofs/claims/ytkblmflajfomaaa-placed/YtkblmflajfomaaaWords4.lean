/- Package words: comment, Next. -/
import Derived.Test.YtkblmflajfomaaaWordsG
namespace Go.Proofs.Ytkblmflajfomaaa
open Go.RowKit
attribute [local go_sem] build_rule build_fin build_text

/-- Block r is an item's variable. -/
def ItemAt (w : World) (r : Nat) (n d : ByteArray) (i : Item) : Prop :=
  w.heap[r]? = some (.cells #[.string i.text, .int .i64 i.rule, .bool i.fin, .string n, .int .i64 (lineAt d i.pos), .int .i64 (colAt d i.pos)] 88 (0, 0))

theorem ItemAt.cells {w : World} {r : Nat} {n d t : ByteArray} {u : Int} {f : Bool} {p : Nat} (h : ItemAt w r n d ⟨t, u, f, p⟩) :
    w.cell? ⟨r, 0, none⟩ = some (.string t) ∧ w.cell? ⟨r, 1, none⟩ = some (.int .i64 u) ∧ w.cell? ⟨r, 2, none⟩ = some (.bool f) ∧
    w.cell? ⟨r, 3, none⟩ = some (.string n) ∧ w.cell? ⟨r, 4, none⟩ = some (.int .i64 (lineAt d p)) ∧ w.cell? ⟨r, 5, none⟩ = some (.int .i64 (colAt d p)) := by
  refine ⟨?_, ?_, ?_, ?_, ?_, ?_⟩ <;> (rw [cell_of h]; rfl)
theorem ItemAt.kept {w w' : World} {r : Nat} {n d : ByteArray} {i : Item} {S : List Nat} (h : ItemAt w r n d i) (hk : Kept S w w') (hb : r ∉ S) : ItemAt w' r n d i := hk.get h hb

theorem item_stored {w : World} {r : Nat} {n d : ByteArray} {i : Item} (h : ItemAt w r n d i) (j : Item) :
    ItemAt ((((((w.setCell ⟨r, 0, none⟩ (.string j.text)).setCell ⟨r, 1, none⟩ (.int .i64 j.rule)).setCell ⟨r, 2, none⟩ (.bool j.fin)).setCell ⟨r, 3, none⟩ (.string n)).setCell ⟨r, 4, none⟩ (.int .i64 (lineAt d j.pos))).setCell ⟨r, 5, none⟩ (.int .i64 (colAt d j.pos))) r n d j := by
  have := block_setCell (block_setCell (block_setCell (block_setCell (block_setCell (block_setCell h 0 (.string j.text)) 1 (.int .i64 j.rule)) 2 (.bool j.fin)) 3 (.string n)) 4 (.int .i64 (lineAt d j.pos))) 5 (.int .i64 (colAt d j.pos))
  unfold ItemAt
  rw [this]
  simp
theorem six_other {w : World} {b r : Nat} {o : Obj} (h : w.heap[b]? = some o) (hne : b ≠ r) (a0 a1 a2 a3 a4 a5 : Value) :
    ((((((w.setCell ⟨r, 0, none⟩ a0).setCell ⟨r, 1, none⟩ a1).setCell ⟨r, 2, none⟩ a2).setCell ⟨r, 3, none⟩ a3).setCell ⟨r, 4, none⟩ a4).setCell ⟨r, 5, none⟩ a5).heap[b]? = some o := by
  rw [Below.heap_setCell _ _ _ _ hne, Below.heap_setCell _ _ _ _ hne, Below.heap_setCell _ _ _ _ hne, Below.heap_setCell _ _ _ _ hne, Below.heap_setCell _ _ _ _ hne, Below.heap_setCell _ _ _ _ hne]
  exact h

/-- A word of the text is no longer than the text. -/
theorem runF_text (d : ByteArray) (k : Nat) (hd : d.size ≤ 1024) : (runF d k).1.text.size ≤ 1024 := by
  unfold runF
  simp only
  split
  · simp [ByteArray.size]
  · split
    · simp [ByteArray.size]
    · simp; omega

set_option maxHeartbeats 2000000 in
set_option maxRecDepth 100000 in
theorem comment_any (b k : Nat) (n d : ByteArray) (w : World) (hd : d.size ≤ 1024) (hk : k ≤ d.size) (h : ScanAt w b n d k) :
    Calls Try.prog 40 #[.pointer (some ⟨b, 0, none⟩)] w fun e w' => e = .returned (itemV n d (commentF d k).1) ∧ ScanAt w' b n d (commentF d k).2 ∧ Kept [b] w w' := by
  have hbw := lt_of_get h
  go_enter Try.func40, Try.ntmps40
  go_wp2_with fail
  refine (run_any b k n d _ hd hk (by exact h.kept ((Kept.refl [] _).alloc _) (by simp))).mono ?_
  rintro e w1 ⟨rfl, h1, hk1⟩
  have hr1 : w1.heap[w.heap.size]? = some (.cells zeroItem 88 (0, 0)) := hk1.get (heap_alloc_new _ _) (by simp; omega)
  have hkw : Kept [b] w w1 := ((Kept.refl _ _).alloc _).trans hk1
  have hb1 := lt_of_get h1
  have hR1 := lt_of_get hr1
  simp only [itemV]
  go_wp2
  go_loopg [] (d.size - k) (fun g wr => ∃ j, j ≤ d.size ∧ g = d.size - j ∧ Hid (commentF d k = commentF d j) ∧ ScanAt wr b n d (runF d j).2 ∧ ItemAt wr w1.heap.size n d (runF d j).1 ∧ wr.heap[w.heap.size]? = some (.cells zeroItem 88 (0, 0)) ∧ Kept [b] w wr)
  case atStart => exact ⟨k, hk, rfl, rfl, h1.kept ((Kept.refl [] _).alloc _) (by simp), heap_alloc_new _ _, ((Kept.refl [] _).alloc _).get hr1 (by simp), hkw.alloc _⟩
  case round =>
    obtain ⟨j, hj, hg, hs, h2, hi, hr, hkp⟩ := hrel
    have hrl := runF_le d j hj
    have htx := runF_text d j hd
    have L1 : Hid (_ → _ → _ → commentF d j = _) := comment_on d j hj
    have L2 : Hid (_ → _ → _ → commentF d j = _) := comment_nest d j
    have L3 : Hid (_ → _ → commentF d j = _) := comment_open d j
    have L4 : Hid (_ → _ → commentF d j = _) := comment_bad d j
    have L5 : Hid (_ → _ → commentF d j = _) := comment_close d j
    generalize hrr : runF d j = r at *
    obtain ⟨⟨t, u, f, p⟩, z⟩ := r
    have HR : Hid (runF d j = (⟨t, u, f, p⟩, z)) := hrr
    clear hrr
    simp only at h2 hi hrl htx
    obtain ⟨q0, q1, q2, q3, q4, q5⟩ := hi.cells
    have hRw := lt_of_get hr
    have hbr := lt_of_get h2
    have hIw := lt_of_get hi
    cases hw : (u == 0 && !f)
    · cases hf : f
      · have HF : Hid (commentF d j = (⟨t, u, false, p⟩, z)) := by have := L4.out (by simpa [isWordF] using hw) hf; rw [hf] at this; exact this
        subst hf
        have hw' : (u == 0) = false := by simpa using hw
        clear L1 L2 L3 L4 L5
        go_wp2_with fail
        refine (isWord_any t n u (lineAt d p) (colAt d p) _ _).mono ?_
        rintro e w2 ⟨rfl, hk2⟩
        have hi2 := hi.kept hk2 (by simp)
        have h22 := h2.kept hk2 (by simp)
        have hr2 := hk2.get hr (by simp)
        have hkp2 := hkp.trans (hk2.mono (by simp))
        clear q0 q1 q2 q3 q4 q5 hi h2 hr hkp hk2
        obtain ⟨q0, q1, q2, q3, q4, q5⟩ := hi2.cells
        obtain ⟨z0, z1, z2, z3, z4, z5⟩ := cells_zero hr2
        have y := free_of hr2
        go_wp2
        exact bodyPost_ret (v := itemV n d ⟨t, u, false, p⟩) (by simp [results, Try.results40, go_sem, itemV, z0, z1, z2, z3, z4, z5]) rfl
          (by rw [hs.out, HF.out]; exact ⟨rfl, six_scan h22 (by omega) _ _ _ _ _ _, six_kept hkp2 (Nat.le_refl _) _ _ _ _ _ _⟩)

      · have HF : Hid (commentF d j = (⟨⟨#[]⟩, 3, false, p⟩, z)) := L3.out (by simpa [isWordF] using hw) hf
        subst hf
        clear L1 L2 L3 L4 L5
        go_wp2_with fail
        refine (isWord_any t n u (lineAt d p) (colAt d p) _ _).mono ?_
        rintro e w2 ⟨rfl, hk2⟩
        have hi2 := hi.kept hk2 (by simp)
        have h22 := h2.kept hk2 (by simp)
        have hr2 := hk2.get hr (by simp)
        have hkp2 := hkp.trans (hk2.mono (by simp))
        clear q0 q1 q2 q3 q4 q5 hi h2 hr hkp hk2
        obtain ⟨q0, q1, q2, q3, q4, q5⟩ := hi2.cells
        obtain ⟨z0, z1, z2, z3, z4, z5⟩ := cells_zero hr2
        have y := free_of hr2
        go_wp2
        exact bodyPost_ret (v := itemV n d ⟨⟨#[]⟩, 3, false, p⟩) (by simp [results, Try.results40, go_sem, itemV, z0, z1, z2, z3, z4, z5]) rfl
          (by rw [hs.out, HF.out]; exact ⟨rfl, six_scan h22 (by omega) _ _ _ _ _ _, six_kept hkp2 (Nat.le_refl _) _ _ _ _ _ _⟩)

    · cases hx : (t.toList == [36, 41])
      · cases hy : bracketF t
        · have HF : Hid (commentF d j = commentF d z) := L1.out hw hx hy
          clear L1 L2 L3 L4 L5
          go_wp2_with fail
          refine (isWord_any t n u (lineAt d p) (colAt d p) _ _).mono ?_
          rintro e w2 ⟨rfl, hk2⟩
          have hi2 := hi.kept hk2 (by simp)
          have h22 := h2.kept hk2 (by simp)
          have hr2 := hk2.get hr (by simp)
          have hkp2 := hkp.trans (hk2.mono (by simp))
          clear q0 q1 q2 q3 q4 q5 hi h2 hr hkp hk2
          obtain ⟨q0, q1, q2, q3, q4, q5⟩ := hi2.cells
          go_wp2_with fail
          refine (bracket_any t _ (by omega)).mono ?_
          rintro e w3 ⟨rfl, rfl⟩
          go_wp2_with fail
          refine (run_any b z n d _ hd hrl.2.1 h22).mono ?_
          rintro e w4 ⟨rfl, h4, hk4⟩
          have hi4 := hi2.kept hk4 (by simp; omega)
          have hr4 := hk4.get hr2 (by simp; omega)
          have hkp4 := hkp2.trans hk4
          have yy := free_of hi4
          have hI4 := lt_of_get hi4
          clear q0 q1 q2 q3 q4 q5
          obtain ⟨q0, q1, q2, q3, q4, q5⟩ := hi4.cells
          simp only [itemV]
          go_wp2
          go_roundg (d.size - z)
          case measure => have := hrl.2.2 hw; omega
          case rel => exact ⟨z, hrl.2.1, rfl, hs.out.trans HF.out, six_scan h4 (by omega) _ _ _ _ _ _, item_stored hi4 _, six_other hr4 (by omega) _ _ _ _ _ _, six_kept hkp4 (by omega) _ _ _ _ _ _⟩

        · have HF : Hid (commentF d j = (⟨⟨#[]⟩, 2, false, p⟩, z)) := L2.out hw hx hy
          clear L1 L2 L3 L4 L5
          go_wp2_with fail
          refine (isWord_any t n u (lineAt d p) (colAt d p) _ _).mono ?_
          rintro e w2 ⟨rfl, hk2⟩
          have hi2 := hi.kept hk2 (by simp)
          have h22 := h2.kept hk2 (by simp)
          have hr2 := hk2.get hr (by simp)
          have hkp2 := hkp.trans (hk2.mono (by simp))
          clear q0 q1 q2 q3 q4 q5 hi h2 hr hkp hk2
          obtain ⟨q0, q1, q2, q3, q4, q5⟩ := hi2.cells
          go_wp2_with fail
          refine (bracket_any t _ (by omega)).mono ?_
          rintro e w3 ⟨rfl, rfl⟩
          obtain ⟨z0, z1, z2, z3, z4, z5⟩ := cells_zero hr2
          have y := free_of hr2
          go_wp2
          exact bodyPost_ret (v := itemV n d ⟨⟨#[]⟩, 2, false, p⟩) (by simp [results, Try.results40, go_sem, itemV, z0, z1, z2, z3, z4, z5]) rfl
            (by rw [hs.out, HF.out]; exact ⟨rfl, six_scan h22 (by omega) _ _ _ _ _ _, six_kept hkp2 (Nat.le_refl _) _ _ _ _ _ _⟩)

      · have HF : Hid (commentF d j = (⟨t, u, f, p⟩, z)) := L5.out hw hx
        clear L1 L2 L3 L4 L5
        have hf : f = false := by cases f; rfl; simp at hw
        subst hf
        have hw' : (u == 0) = true := by simpa using hw
        go_wp2_with fail
        refine (isWord_any t n u (lineAt d p) (colAt d p) _ _).mono ?_
        rintro e w2 ⟨rfl, hk2⟩
        have hi2 := hi.kept hk2 (by simp)
        have h22 := h2.kept hk2 (by simp)
        have hr2 := hk2.get hr (by simp)
        have hkp2 := hkp.trans (hk2.mono (by simp))
        clear q0 q1 q2 q3 q4 q5 hi h2 hr hkp hk2
        obtain ⟨q0, q1, q2, q3, q4, q5⟩ := hi2.cells
        obtain ⟨z0, z1, z2, z3, z4, z5⟩ := cells_zero hr2
        have y := free_of hr2
        go_wp2
        exact bodyPost_ret (v := itemV n d ⟨t, u, false, p⟩) (by simp [results, Try.results40, go_sem, itemV, z0, z1, z2, z3, z4, z5]) rfl
          (by rw [hs.out, HF.out]; exact ⟨rfl, six_scan h22 (by omega) _ _ _ _ _ _, six_kept hkp2 (Nat.le_refl _) _ _ _ _ _ _⟩)

end Go.Proofs.Ytkblmflajfomaaa
