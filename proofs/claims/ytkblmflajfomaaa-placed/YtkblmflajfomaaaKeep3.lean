/- Package metaproofkeep: back, chunk. -/
import Derived.Test.YtkblmflajfomaaaKeep2
namespace Go.Proofs.Ytkblmflajfomaaa
open Go.RowKit

/-- A text that is well-formed, without inclusions, and fits. -/
structure Fine (T : ByteArray) : Prop where
  size : T.size ≤ 1024
  ok : (readF T 0 emptyDb).1 = 0
  inc : holdsF T = false

set_option maxHeartbeats 1000000 in
set_option maxRecDepth 100000 in
theorem back_any {N : Nat} (hN : N ≤ 3) (b x : Nat) (T : ByteArray) (fs : List (ByteArray × ByteArray)) (rep : Bool) (w : World) (hW : WorldAt w b x T) (hV : VerAt w x fs rep) (hx : x ≠ b) (hM : MOk N fs) (hT : Fine T) (hni : NoInc T) :
    Calls Try.prog 18 #[.pointer (some ⟨b, 0, none⟩)] w fun e w' => e = .returned (.bool true) ∧ WorldAt w' b x T ∧ (∃ fs' r, VerAt w' x fs' r ∧ MOk N fs') ∧ Kept [x] w w' := by
  obtain ⟨c0, c1, c2⟩ := hW.cells
  have hbw := lt_of_get hW
  have SF := see_short hN b x T T fs rep w hW hV hx (by have := hT.size; omega) hM hni
  rw [show seeV T (readF T 0 emptyDb).1 (readF T 0 emptyDb).2 = seenV 0 ⟨#[]⟩ 0 0 0 by simp [seeV, hT.ok]] at SF
  have HSF := (show Hid _ from SF)
  clear SF
  go_enter Try.func18, Try.ntmps18
  go_wp2_with fail
  refine Calls.mono HSF.out ?_
  rintro e w2 ⟨rfl, hW2, ⟨fs', r2, hV2, hM2⟩, hk2⟩
  simp only [seenV]
  have hb2 := lt_of_get hW2
  clear c0 c1 c2
  obtain ⟨c0, c1, c2⟩ := hW2.cells
  go_wp2_with fail
  go_quiet ((go_at_call 26; exact Calls.quiet_of_same (sameRows_any _ _)))
  go_wp2
  go_ret
  exact ⟨rfl, hW2.kept (((Kept.refl [] _).alloc _).drewN _) (by simp), ⟨fs', r2, TabAt.kept hV2 (((Kept.refl [] _).alloc _).drewN _) (by simp), hM2⟩, (hk2.alloc _).drewN _⟩

theorem WorldAt.text {w : World} {b x : Nat} {t : ByteArray} (h : WorldAt w b x t) (u : ByteArray) : WorldAt ((w.setCell ⟨b, 1, none⟩ (.string u)).setCell ⟨b, 2, none⟩ (.slice none 0 0)) b x u := by
  have := block_setCell (block_setCell h 1 (.string u)) 2 (.slice none 0 0)
  unfold WorldAt
  rw [this]
  simp [worldCells]

set_option maxHeartbeats 3000000 in
set_option maxRecDepth 100000 in
theorem chunk_any {N : Nat} (hN : N ≤ 3) (b x : Nat) (T c : ByteArray) (fs : List (ByteArray × ByteArray)) (rep : Bool) (w : World) (hW : WorldAt w b x T) (hV : VerAt w x fs rep) (hx : x ≠ b) (hM : MOk N fs) (hT : Fine T) (hc : c.size ≤ 1073741824) (hniT : NoInc T)
    (hU : holdsF c = false → NoInc (T ++ ⟨#[10]⟩ ++ c) ∧ holdsF (T ++ ⟨#[10]⟩ ++ c) = false ∧ (∀ r p, readF (T ++ ⟨#[10]⟩ ++ c) 0 emptyDb = (r, p) → (r == 0) = false → lineAt T T.size + 1 ≤ lineAt (T ++ ⟨#[10]⟩ ++ c) p)) :
    Calls Try.prog 15 #[.pointer (some ⟨b, 0, none⟩), .string c] w fun e w' => e = .returned (.bool true) ∧ (∃ T', WorldAt w' b x T' ∧ Fine T') ∧ (∃ fs' r, VerAt w' x fs' r ∧ MOk N fs') ∧ Kept [b, x] w w' := by
  have hTs := hT.size
  have hbw := lt_of_get hW
  obtain ⟨c0, c1, c2⟩ := hW.cells
  cases hh : holdsF c
  · obtain ⟨hn1, hn2, hn3⟩ := hU hh
    have hsz : (T ++ ⟨#[10]⟩ ++ c).size = T.size + 1 + c.size := by simp only [ByteArray.size_append]; rfl
    have HU : Hid (∀ U, U = T ++ ⟨#[10]⟩ ++ c → U.size = T.size + 1 + c.size ∧ NoInc U ∧ holdsF U = false ∧ (∀ r p, readF U 0 emptyDb = (r, p) → (r == 0) = false → lineAt T T.size + 1 ≤ lineAt U p)) := by
      intro U hUU; subst hUU; exact ⟨hsz, hn1, hn2, hn3⟩
    clear hU hn1 hn2 hn3 hsz
    go_enter Try.func15, Try.ntmps15
    go_wp2_with (go_at_call 16; refine (holds_any _ _ (by omega)).mono ?_; rintro e w9 ⟨rfl, rfl⟩)
    obtain ⟨U, hUU⟩ : ∃ U, U = T ++ ⟨#[10]⟩ ++ c := ⟨_, rfl⟩
    rw [← hUU]
    obtain ⟨u1, u2, u3, u4⟩ := HU.out U hUU
    have HUU := (show Hid _ from hUU)
    clear hUU HU
    by_cases hl : 1024 < U.size
    · refine (see_long b x T U fs rep _ hW hV hx hl (by omega)).mono ?_
      rintro e w2 ⟨rfl, hW2, ⟨r2, hV2⟩, hk2⟩
      simp only [seenV]
      have hb2 := lt_of_get hW2
      clear c0 c1 c2
      obtain ⟨c0, c1, c2⟩ := hW2.cells
      go_wp2_with fail
      refine (back_any hN b x T fs r2 _ (hW2.kept ((Kept.refl [] _).alloc _) (by simp)) (TabAt.kept hV2 ((Kept.refl [] _).alloc _) (by simp)) hx hM hT hniT).mono ?_
      rintro e w3 ⟨rfl, hW3, ⟨fs3, r3, hV3, hM3⟩, hk3⟩
      go_wp2
      go_ret
      exact ⟨rfl, ⟨T, hW3, hT⟩, ⟨fs3, r3, hV3, hM3⟩, ((hk2.mono (by simp)).alloc _).trans (hk3.mono (by simp))⟩
    · have SF := see_short hN b x T U fs rep _ hW hV hx hl hM u2
      have FU : Hid ((readF U 0 emptyDb).1 = 0 → Fine U) := fun h => ⟨by omega, h, u3⟩
      have HSF := (show Hid _ from SF)
      clear SF
      generalize readF U 0 emptyDb = rp at *
      obtain ⟨r, p⟩ := rp
      simp only [seeV] at HSF FU
      have u4' := u4 r p rfl
      have HU4 := (show Hid _ from u4')
      clear u4 u4'
      cases hr : (r == 0)
      · simp only [hr, Bool.false_eq_true, if_false] at HSF
        refine Calls.mono HSF.out ?_
        rintro e w2 ⟨rfl, hW2, ⟨fs2, r2, hV2, hM2⟩, hk2⟩
        simp only [seenV]
        have hb2 := lt_of_get hW2
        have hl1 := line_le T T.size
        have hl2 := HU4.out hr
        have hl3 := line_le U p
        clear c0 c1 c2
        obtain ⟨c0, c1, c2⟩ := hW2.cells
        go_wp2_with (go_at_call 24; refine (lines_any _ _ (by omega)).mono ?_; rintro e w9 ⟨rfl, hw9⟩; subst hw9)
        refine (back_any hN b x T fs2 r2 _ (hW2.kept ((Kept.refl [] _).alloc _) (by simp)) (TabAt.kept hV2 ((Kept.refl [] _).alloc _) (by simp)) hx hM2 hT hniT).mono ?_
        rintro e w3 ⟨rfl, hW3, ⟨fs3, r3, hV3, hM3⟩, hk3⟩
        go_wp2
        go_ret
        exact ⟨rfl, ⟨T, hW3, hT⟩, ⟨fs3, r3, hV3, hM3⟩, ((hk2.mono (by simp)).alloc _).trans (hk3.mono (by simp))⟩
      · simp only [hr, if_true] at HSF
        refine Calls.mono HSF.out ?_
        rintro e w2 ⟨rfl, hW2, ⟨fs2, r2, hV2, hM2⟩, hk2⟩
        simp only [seenV]
        have hb2 := lt_of_get hW2
        have HF2 : Hid (Fine U) := FU.out (by simpa using hr)
        have hfr := free_of hW2
        clear c0 c1 c2
        obtain ⟨c0, c1, c2⟩ := hW2.cells
        go_wp2_with fail
        go_quiet ((go_at_call 23; exact Calls.quiet_of_same (begins_any _)))
        go_wp2
        go_ret
        exact ⟨rfl, ⟨U, (hW2.kept (((Kept.refl [] _).alloc _).drewN _) (by simp)).text U, HF2.out⟩, ⟨fs2, r2, TabAt.kept hV2 (S := [b]) (((((Kept.refl _ _).alloc _).drewN _).setCell (Or.inl (by simp)) _).setCell (Or.inl (by simp)) _) (by simpa using hx), hM2⟩,
          ((((hk2.mono (by simp)).alloc _).drewN _).setCell (Or.inl (by simp)) _).setCell (Or.inl (by simp)) _⟩
  · go_enter Try.func15, Try.ntmps15
    go_wp2_with (go_at_call 16; refine (holds_any _ _ (by omega)).mono ?_; rintro e w9 ⟨rfl, rfl⟩)
    go_ret
    exact ⟨rfl, ⟨T, hW, hT⟩, ⟨fs, rep, hV, hM⟩, Kept.refl _ _⟩

end Go.Proofs.Ytkblmflajfomaaa
