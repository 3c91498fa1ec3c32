import Derived.Test.YtkancbaldeeijaaGreatG10
import Derived.Test.YtkancbaldeeijaaGreatG30
/- Package metaproofkeep: stay. -/
namespace Go.Proofs.YtkancbaldeeijaaGreat
open Go.RowKit

set_option maxHeartbeats 2000000 in
set_option maxRecDepth 100000 in
theorem stay_any (b x : Nat) (T a c : ByteArray) (o : Option Nat) (fs : List (ByteArray × ByteArray)) (w : World) (hW : WorldAt w b x T o) (hV : SomeAt w x fs) (hx : x ≠ b) (hM : MOk 0 fs) (hT : Fine T) (ha : a.size ≤ 1073741824) (hc : c.size ≤ 1073741824) :
    Calls Tryz.prog 11 #[.pointer (some ⟨b, 0, none⟩), .string a, .string c] w fun e w' => e = .returned (.bool true) ∧ Kept [x] w w' := by
  have hTs := hT.size
  have hbw := hW.lt
  obtain ⟨c0, c1, -⟩ := hW.cells
  have hab : (a ++ c).size = a.size + c.size := ByteArray.size_append
  cases hh : holdsF (a ++ c)
  · obtain ⟨ha2, hc2⟩ := holds_parts a c hh
    have u3 : holdsF (T ++ ⟨#[10]⟩ ++ a) = false := holds_more T a hT.inc ha2
    have HU : Hid (∀ U, U = T ++ ⟨#[10]⟩ ++ a → U.size = T.size + 1 + a.size ∧ holdsF U = false) := by
      intro U hUU; subst hUU; exact ⟨by simp only [ByteArray.size_append]; rfl, u3⟩
    have HC := (show Hid _ from hc2)
    clear u3 ha2 hc2
    go_enter Tryz.func11, Tryz.ntmps11
    go_wp2_with (go_at_call 20; refine (kholds_any _ _ (by omega)).mono ?_; rintro e w9 ⟨rfl, hw9⟩; rw [hw9])
    obtain ⟨U, hUU⟩ : ∃ U, U = T ++ ⟨#[10]⟩ ++ a := ⟨_, rfl⟩
    rw [← hUU]
    obtain ⟨u1, u3⟩ := HU.out U hUU
    clear hUU HU
    by_cases hl : 1024 < U.size
    · refine (see_long b x T U o fs _ hW hV hx hl (by omega)).mono ?_
      rintro e w2 ⟨rfl, hW2, hV2, hk2⟩
      simp only [seenV]
      go_wp2_with fail
      refine (back_any (N := 0) (by omega) b x T o fs _ (hW2.still ((Kept.refl [] _).alloc _)) (hV2.kept ((Kept.refl [] _).alloc _) (by simp)) hx hM hT).mono ?_
      rintro e w3 ⟨rfl, -, -, hk3⟩
      go_wp2
      go_ret
      exact ⟨rfl, (hk2.alloc _).trans hk3⟩
    · have SF := see_short (N := 0) (by omega) b x T U o fs _ hW hV hx hl hM u3
      unfold SeeSays seeV at SF
      have ST := stay_texts U c
      obtain ⟨r, HR⟩ : ∃ r, Hid ((rdM U).1.1 = r) := ⟨_, rfl⟩
      obtain ⟨p, HP⟩ : ∃ p, Hid ((rdM U).1.2 = p) := ⟨_, rfl⟩
      rw [HR.out, HP.out] at SF ST
      have HSF := (show Hid _ from SF)
      have HST := (show Hid _ from ST)
      clear SF ST
      cases hr : (r == 0)
      · simp only [hr, Bool.false_eq_true, if_false] at HSF
        cases h7 : (r != 7)
        · refine Calls.mono HSF.out ?_
          rintro e w2 ⟨o', rfl, -, -, hW2, ⟨fs2, hV2, hM2⟩, hk2⟩
          simp only [seenV]
          go_wp2_with fail
          refine (back_any (N := 0) (by omega) b x T o fs2 _ (hW2.still ((Kept.refl [] _).alloc _)) (hV2.kept ((Kept.refl [] _).alloc _) (by simp)) hx hM2 hT).mono ?_
          rintro e w3 ⟨rfl, -, -, hk3⟩
          go_wp2
          go_ret
          exact ⟨rfl, (hk2.alloc _).trans hk3⟩
        · cases h3 : (r != 3)
          · refine Calls.mono HSF.out ?_
            rintro e w2 ⟨o', rfl, -, -, hW2, ⟨fs2, hV2, hM2⟩, hk2⟩
            simp only [seenV]
            go_wp2_with fail
            refine (back_any (N := 0) (by omega) b x T o fs2 _ (hW2.still ((Kept.refl [] _).alloc _)) (hV2.kept ((Kept.refl [] _).alloc _) (by simp)) hx hM2 hT).mono ?_
            rintro e w3 ⟨rfl, -, -, hk3⟩
            go_wp2
            go_ret
            exact ⟨rfl, (hk2.alloc _).trans hk3⟩
          · obtain ⟨t1, t2, t3⟩ := HST.out hr h7 h3
            have v3 : holdsF (U ++ ⟨#[10]⟩ ++ c) = false := holds_more U c u3 HC.out
            have v1 : (U ++ ⟨#[10]⟩ ++ c).size = U.size + 1 + c.size := by simp only [ByteArray.size_append]; rfl
            have HV := (show Hid _ from And.intro v1 (And.intro v3 (And.intro t1 (And.intro t2 t3))))
            clear t1 t2 t3 v1 v3 HST
            refine Calls.mono HSF.out ?_
            rintro e w2 ⟨o', rfl, -, -, hW2, ⟨fs2, hV2, hM2⟩, hk2⟩
            simp only [seenV]
            have hb2 := hW2.lt
            go_wp2_with fail
            obtain ⟨v1, v2, t1, t2, t3⟩ := HV.out
            generalize U ++ ⟨#[10]⟩ ++ c = V at *
            have hW3 := hW2.still ((Kept.refl [] _).alloc (.cells #[.slice none 0 0, .int .i64 r, .string ⟨#[109]⟩, .int .i64 (lineAt U p), .int .i64 (colAt U p), .int .i64 6] 52))
            have hV3 := hV2.kept ((Kept.refl [] _).alloc (.cells #[.slice none 0 0, .int .i64 r, .string ⟨#[109]⟩, .int .i64 (lineAt U p), .int .i64 (colAt U p), .int .i64 6] 52)) (by simp)
            have hS3 : (w2.alloc (.cells #[.slice none 0 0, .int .i64 r, .string ⟨#[109]⟩, .int .i64 (lineAt U p), .int .i64 (colAt U p), .int .i64 6] 52)).heap[w2.heap.size]? = some (.cells #[.slice none 0 0, .int .i64 r, .string ⟨#[109]⟩, .int .i64 (lineAt U p), .int .i64 (colAt U p), .int .i64 6] 52 (0, 0)) := heap_alloc_new _ _
            by_cases hl2 : 1024 < V.size
            · refine (see_long b x T V o fs2 _ hW3 hV3 hx hl2 (by omega)).mono ?_
              rintro e w4 ⟨rfl, hW4, hV4, hk4⟩
              simp only [seenV]
              go_wp2_with fail
              refine (back_any (N := 0) (by omega) b x T o fs2 _ (hW4.still ((Kept.refl [] _).alloc _)) (hV4.kept ((Kept.refl [] _).alloc _) (by simp)) hx hM2 hT).mono ?_
              rintro e w5 ⟨rfl, -, -, hk5⟩
              go_wp2
              go_ret
              exact ⟨rfl, (((hk2.alloc _).trans hk4).alloc _).trans hk5⟩
            · have SF := see_short (N := 0) (by omega) b x T V o fs2 _ hW3 hV3 hx hl2 hM2 v2
              unfold SeeSays seeV at SF
              rw [t1, HR.out, HP.out] at SF
              simp only [hr, Bool.false_eq_true, if_false, t2, t3] at SF
              refine Calls.mono SF ?_
              rintro e w4 ⟨o4, rfl, -, -, hW4, ⟨fs4, hV4, hM4⟩, hk4⟩
              simp only [seenV]
              have hx2 := hV2.lt
              have hS4 := hk4.get hS3 (by simp; omega)
              obtain ⟨y0, y1, y2, y3, y4, y5⟩ := seen_cells hS4
              have hs4 := lt_of_get hS4
              clear SF t1 t2 t3
              have hfn := fun (wx : World) => faultNeq r ⟨#[109]⟩ (lineAt U p) (colAt U p) wx
              go_wp2_with fail
              refine (back_any (N := 0) (by omega) b x T o fs4 _ (hW4.still ((Kept.refl [] _).alloc _)) (hV4.kept ((Kept.refl [] _).alloc _) (by simp)) hx hM4 hT).mono ?_
              rintro e w5 ⟨rfl, -, -, hk5⟩
              go_wp2
              go_ret
              exact ⟨rfl, (((hk2.alloc _).trans hk4).alloc _).trans hk5⟩
      · simp only [hr, if_true] at HSF
        refine Calls.mono HSF.out ?_
        rintro e w2 ⟨o', rfl, -, -, hW2, ⟨fs2, hV2, hM2⟩, hk2⟩
        obtain ⟨ao1, n1, c1', hrs1⟩ := rowsSl_is o' (rowsM U).length
        rw [hrs1]
        simp only [seenV]
        go_wp2_with fail
        refine (back_any (N := 0) (by omega) b x T o fs2 _ (hW2.still ((Kept.refl [] _).alloc _)) (hV2.kept ((Kept.refl [] _).alloc _) (by simp)) hx hM2 hT).mono ?_
        rintro e w3 ⟨rfl, -, -, hk3⟩
        go_wp2
        go_ret
        exact ⟨rfl, (hk2.alloc _).trans hk3⟩
  · go_enter Tryz.func11, Tryz.ntmps11
    go_wp2_with (go_at_call 20; refine (kholds_any _ _ (by omega)).mono ?_; rintro e w9 ⟨rfl, hw9⟩; subst hw9)
    go_ret
    exact ⟨rfl, Kept.refl _ _⟩

end Go.Proofs.YtkancbaldeeijaaGreat
