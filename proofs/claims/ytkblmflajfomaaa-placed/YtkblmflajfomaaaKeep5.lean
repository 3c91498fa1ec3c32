/- Package metaproofkeep: first, stay, Stays. -/
import Derived.Test.YtkblmflajfomaaaPure4
namespace Go.Proofs.Ytkblmflajfomaaa
open Go.RowKit

theorem uF : Try.prog.underlying 47 = some (.struct (Try.prog.fieldsOf 47)) := by kernel_rfl
theorem uP : Try.prog.underlying 45 = some (.struct (Try.prog.fieldsOf 45)) := by kernel_rfl
theorem sF : Try.prog.stoodInHeld 47 = false := by kernel_rfl
theorem sP : Try.prog.stoodInHeld 45 = false := by kernel_rfl
theorem partF0 (a : Value) (b c d : Value) (w : World) : (part 3 #[a, b, c, d] 0).run Try.prog w = .ok a w := by kernel_rfl
theorem partF1 (a b c d : Value) (w : World) : (part 45 #[a, b, c, d] 1).run Try.prog w = .ok (.agg #[b, c, d]) w := by kernel_rfl
theorem partP0 (a b c : Value) (w : World) : (part 9 #[a, b, c] 0).run Try.prog w = .ok a w := by kernel_rfl
theorem partP1 (a b c : Value) (w : World) : (part 3 #[a, b, c] 1).run Try.prog w = .ok b w := by kernel_rfl
theorem partP2 (a b c : Value) (w : World) : (part 3 #[a, b, c] 2).run Try.prog w = .ok c w := by kernel_rfl
theorem eqP (d : Nat) (xs ys : Array Value) : Op.eqFields d xs ys (Try.prog.fieldsOf 45).toList = (do let a ← part 9 xs 0; let b ← part 9 ys 0; let r ← Op.equalIn d 9 a b; if (!r) = true then pure false else do
   let a ← part 3 xs 1; let b ← part 3 ys 1; let r ← Op.equalIn d 3 a b; if (!r) = true then pure false else do
   let a ← part 3 xs 2; let b ← part 3 ys 2; let r ← Op.equalIn d 3 a b; if (!r) = true then pure false else pure true) := by kernel_rfl
theorem placeEq (d : Nat) (s : ByteArray) (l c : Int) (w : World) : (Op.equalIn (d + 2) 45 (.agg #[.string s, .int .i64 l, .int .i64 c]) (.agg #[.string s, .int .i64 l, .int .i64 c])).run Try.prog w = .ok true w := by
  rw [run_equalIn_agg w (d + 1) 45 _ _ uP sP, eqP]
  simp [Sem.run_bind, partP0, partP1, partP2, run_equalIn_string w d 9 s s Try.underlying9, run_equalIn_int w d 3 .i64 .i64 l l Try.underlying3, run_equalIn_int w d 3 .i64 .i64 c c Try.underlying3]
theorem eqF (d : Nat) (xs ys : Array Value) : Op.eqFields d xs ys (Try.prog.fieldsOf 47).toList = (do let a ← part 3 xs 0; let b ← part 3 ys 0; let r ← Op.equalIn d 3 a b; if (!r) = true then pure false else do
   let a ← part 45 xs 1; let b ← part 45 ys 1; let r ← Op.equalIn d 45 a b; if (!r) = true then pure false else pure true) := by kernel_rfl
theorem faultEq (d : Nat) (r : Int) (s : ByteArray) (l c : Int) (w : World) : (Op.equalIn (d + 3) 47 (.agg #[.int .i64 r, .string s, .int .i64 l, .int .i64 c]) (.agg #[.int .i64 r, .string s, .int .i64 l, .int .i64 c])).run Try.prog w = .ok true w := by
  rw [run_equalIn_agg w (d + 2) 47 _ _ uF sF, eqF]
  simp [Sem.run_bind, partF0, partF1, placeEq d s l c, run_equalIn_int w (d + 1) 3 .i64 .i64 r r Try.underlying3]
theorem faultNeq (r : Int) (s : ByteArray) (l c : Int) (w : World) : (binOp .neq 47 (.agg #[.int .i64 r, .string s, .int .i64 l, .int .i64 c]) (.agg #[.int .i64 r, .string s, .int .i64 l, .int .i64 c])).run Try.prog w = .ok (.bool false) w := by
  rw [run_neq_struct, show (10000 : Nat) = 9997 + 3 from rfl, faultEq]; simp
theorem placeNeq (s : ByteArray) (l c : Int) (w : World) : (binOp .neq 45 (.agg #[.string s, .int .i64 l, .int .i64 c]) (.agg #[.string s, .int .i64 l, .int .i64 c])).run Try.prog w = .ok (.bool false) w := by
  rw [run_neq_struct, show (10000 : Nat) = 9998 + 2 from rfl, placeEq]; simp
theorem placeEql (s : ByteArray) (l c : Int) (w : World) : (binOp .eql 45 (.agg #[.string s, .int .i64 l, .int .i64 c]) (.agg #[.string s, .int .i64 l, .int .i64 c])).run Try.prog w = .ok (.bool true) w := by
  rw [run_eql_struct, show (10000 : Nat) = 9998 + 2 from rfl, placeEq]; simp

set_option maxHeartbeats 2000000 in
set_option maxRecDepth 100000 in
theorem stay_any (X : Texts) (b x : Nat) (T a c : ByteArray) (fs : List (ByteArray × ByteArray)) (rep : Bool) (w : World) (hW : WorldAt w b x T) (hV : VerAt w x fs rep) (hx : x ≠ b) (hM : MOk 0 fs) (hT : Fine T) (ha : a.size ≤ 1073741824) (hc : c.size ≤ 1073741824) :
    Calls Try.prog 9 #[.pointer (some ⟨b, 0, none⟩), .string a, .string c] w fun e w' => e = .returned (.bool true) ∧ Kept [x] w w' := by
  have hTs := hT.size
  have hbw := lt_of_get hW
  have hniT := X.noInc T hT.inc
  obtain ⟨c0, c1, c2⟩ := hW.cells
  have hab : (a ++ c).size = a.size + c.size := ByteArray.size_append
  cases hh : holdsF (a ++ c)
  · obtain ⟨ha2, hc2⟩ := holds_parts a c hh
    have u3 : holdsF (T ++ ⟨#[10]⟩ ++ a) = false := holds_more T a hT.inc ha2
    have HU : Hid (∀ U, U = T ++ ⟨#[10]⟩ ++ a → U.size = T.size + 1 + a.size ∧ NoInc U ∧ holdsF U = false) := by
      intro U hUU; subst hUU; exact ⟨by simp only [ByteArray.size_append]; rfl, X.noInc _ u3, u3⟩
    have HC := (show Hid _ from hc2)
    clear u3 ha2 hc2
    go_enter Try.func9, Try.ntmps9
    go_wp2_with (go_at_call 16; refine (holds_any _ _ (by omega)).mono ?_; rintro e w9 ⟨rfl, hw9⟩; subst hw9)
    obtain ⟨U, hUU⟩ : ∃ U, U = T ++ ⟨#[10]⟩ ++ a := ⟨_, rfl⟩
    rw [← hUU]
    obtain ⟨u1, u2, u3⟩ := HU.out U hUU
    clear hUU HU
    by_cases hl : 1024 < U.size
    · refine (see_long b x T U fs rep _ hW hV hx hl (by omega)).mono ?_
      rintro e w2 ⟨rfl, hW2, ⟨r2, hV2⟩, hk2⟩
      simp only [seenV]
      go_wp2_with fail
      refine (back_any (N := 0) (by omega) b x T fs r2 _ (hW2.kept ((Kept.refl [] _).alloc _) (by simp)) (TabAt.kept hV2 ((Kept.refl [] _).alloc _) (by simp)) hx hM hT hniT).mono ?_
      rintro e w3 ⟨rfl, -, -, hk3⟩
      go_wp2
      go_ret
      exact ⟨rfl, (hk2.alloc _).trans hk3⟩
    · have SF := see_short (N := 0) (by omega) b x T U fs rep _ hW hV hx hl hM u2
      have HSF := (show Hid _ from SF)
      have ST := fun (r : Int) (p : Nat) => stay_texts U c r p
      have HST := (show Hid _ from ST)
      clear SF ST
      generalize readF U 0 emptyDb = rp at *
      obtain ⟨r, p⟩ := rp
      simp only [seeV] at HSF
      cases hr : (r == 0)
      · simp only [hr, Bool.false_eq_true, if_false] at HSF
        cases h7 : (r != 7)
        · refine Calls.mono HSF.out ?_
          rintro e w2 ⟨rfl, hW2, ⟨fs2, r2, hV2, hM2⟩, hk2⟩
          simp only [seenV]
          go_wp2_with fail
          refine (back_any (N := 0) (by omega) b x T fs2 r2 _ (hW2.kept ((Kept.refl [] _).alloc _) (by simp)) (TabAt.kept hV2 ((Kept.refl [] _).alloc _) (by simp)) hx hM2 hT hniT).mono ?_
          rintro e w3 ⟨rfl, -, -, hk3⟩
          go_wp2
          go_ret
          exact ⟨rfl, (hk2.alloc _).trans hk3⟩
        · cases h3 : (r != 3)
          · refine Calls.mono HSF.out ?_
            rintro e w2 ⟨rfl, hW2, ⟨fs2, r2, hV2, hM2⟩, hk2⟩
            simp only [seenV]
            go_wp2_with fail
            refine (back_any (N := 0) (by omega) b x T fs2 r2 _ (hW2.kept ((Kept.refl [] _).alloc _) (by simp)) (TabAt.kept hV2 ((Kept.refl [] _).alloc _) (by simp)) hx hM2 hT hniT).mono ?_
            rintro e w3 ⟨rfl, -, -, hk3⟩
            go_wp2
            go_ret
            exact ⟨rfl, (hk2.alloc _).trans hk3⟩
          · obtain ⟨t1, t2, t3⟩ := HST.out r p rfl hr h7 h3
            have v3 : holdsF (U ++ ⟨#[10]⟩ ++ c) = false := holds_more U c u3 HC.out
            have v1 : (U ++ ⟨#[10]⟩ ++ c).size = U.size + 1 + c.size := by simp only [ByteArray.size_append]; rfl
            have v2 := X.noInc _ v3
            have HV := (show Hid _ from And.intro v1 (And.intro v2 (And.intro t1 (And.intro t2 t3))))
            clear t1 t2 t3 v1 v2 v3 HST
            refine Calls.mono HSF.out ?_
            rintro e w2 ⟨rfl, hW2, ⟨fs2, r2, hV2, hM2⟩, hk2⟩
            simp only [seenV]
            have hb2 := lt_of_get hW2
            go_wp2_with fail
            obtain ⟨v1, v2, t1, t2, t3⟩ := HV.out
            generalize U ++ ⟨#[10]⟩ ++ c = V at *
            have hW3 := hW2.kept ((Kept.refl [] _).alloc (.cells #[.slice none 0 0, .int .i64 r, .string ⟨#[109]⟩, .int .i64 (lineAt U p), .int .i64 (colAt U p), .int .i64 6] 52)) (by simp)
            have hV3 := TabAt.kept hV2 ((Kept.refl [] _).alloc (.cells #[.slice none 0 0, .int .i64 r, .string ⟨#[109]⟩, .int .i64 (lineAt U p), .int .i64 (colAt U p), .int .i64 6] 52)) (by simp)
            have hS3 : (w2.alloc (.cells #[.slice none 0 0, .int .i64 r, .string ⟨#[109]⟩, .int .i64 (lineAt U p), .int .i64 (colAt U p), .int .i64 6] 52)).heap[w2.heap.size]? = some (.cells #[.slice none 0 0, .int .i64 r, .string ⟨#[109]⟩, .int .i64 (lineAt U p), .int .i64 (colAt U p), .int .i64 6] 52 (0, 0)) := heap_alloc_new _ _
            by_cases hl2 : 1024 < V.size
            · refine (see_long b x T V fs2 r2 _ hW3 hV3 hx hl2 (by omega)).mono ?_
              rintro e w4 ⟨rfl, hW4, ⟨r4, hV4⟩, hk4⟩
              simp only [seenV]
              go_wp2_with fail
              refine (back_any (N := 0) (by omega) b x T fs2 r4 _ (hW4.kept ((Kept.refl [] _).alloc _) (by simp)) (TabAt.kept hV4 ((Kept.refl [] _).alloc _) (by simp)) hx hM2 hT hniT).mono ?_
              rintro e w5 ⟨rfl, -, -, hk5⟩
              go_wp2
              go_ret
              exact ⟨rfl, (((hk2.alloc _).trans hk4).alloc _).trans hk5⟩
            · have SF := see_short (N := 0) (by omega) b x T V fs2 r2 _ hW3 hV3 hx hl2 hM2 v2
              rw [t1] at SF
              simp only [seeV, hr, Bool.false_eq_true, if_false, t2, t3] at SF
              refine Calls.mono SF ?_
              rintro e w4 ⟨rfl, hW4, ⟨fs4, r4, hV4, hM4⟩, hk4⟩
              simp only [seenV]
              have hx2 := TabAt.lt hV2
              have hS4 := hk4.get hS3 (by simp; omega)
              obtain ⟨y0, y1, y2, y3, y4, y5⟩ := seen_cells hS4
              have hs4 := lt_of_get hS4
              clear SF t1 t2 t3
              have hfn := fun (wx : World) => faultNeq r ⟨#[109]⟩ (lineAt U p) (colAt U p) wx
              go_wp2_with fail
              refine (back_any (N := 0) (by omega) b x T fs4 r4 _ (hW4.kept ((Kept.refl [] _).alloc _) (by simp)) (TabAt.kept hV4 ((Kept.refl [] _).alloc _) (by simp)) hx hM4 hT hniT).mono ?_
              rintro e w5 ⟨rfl, -, -, hk5⟩
              go_wp2
              go_ret
              exact ⟨rfl, (((hk2.alloc _).trans hk4).alloc _).trans hk5⟩
      · simp only [hr, if_true] at HSF
        refine Calls.mono HSF.out ?_
        rintro e w2 ⟨rfl, hW2, ⟨fs2, r2, hV2, hM2⟩, hk2⟩
        simp only [seenV]
        go_wp2_with fail
        refine (back_any (N := 0) (by omega) b x T fs2 r2 _ (hW2.kept ((Kept.refl [] _).alloc _) (by simp)) (TabAt.kept hV2 ((Kept.refl [] _).alloc _) (by simp)) hx hM2 hT hniT).mono ?_
        rintro e w3 ⟨rfl, -, -, hk3⟩
        go_wp2
        go_ret
        exact ⟨rfl, (hk2.alloc _).trans hk3⟩
  · go_enter Try.func9, Try.ntmps9
    go_wp2_with (go_at_call 16; refine (holds_any _ _ (by omega)).mono ?_; rintro e w9 ⟨rfl, hw9⟩; subst hw9)
    go_ret
    exact ⟨rfl, Kept.refl _ _⟩

theorem fresh_kept {w w' : World} (h : Kept [w.heap.size] w w') : Kept [] w w' :=
  ⟨h.os, h.tape, h.output, h.size, fun k hk _ => h.block k hk (by simp; omega)⟩
theorem firstPut1 : putF [] ⟨#[109]⟩ ⟨#[36, 99, 32, 119, 32, 36, 46, 32, 36, 118, 32, 112, 32, 36, 46, 32, 119, 112, 32, 36, 102, 32, 119, 32, 112, 32, 36, 46, 10, 97, 32, 36, 97, 32, 119, 32, 112, 32, 36, 46]⟩ = (0, [(⟨#[109]⟩, ⟨#[36, 99, 32, 119, 32, 36, 46, 32, 36, 118, 32, 112, 32, 36, 46, 32, 119, 112, 32, 36, 102, 32, 119, 32, 112, 32, 36, 46, 10, 97, 32, 36, 97, 32, 119, 32, 112, 32, 36, 46]⟩)]) := by decide +kernel
theorem firstPut2 : putF [(⟨#[109]⟩, ⟨#[36, 99, 32, 119, 32, 36, 46, 32, 36, 118, 32, 112, 32, 36, 46, 32, 119, 112, 32, 36, 102, 32, 119, 32, 112, 32, 36, 46, 10, 97, 32, 36, 97, 32, 119, 32, 112, 32, 36, 46]⟩)] ⟨#[110]⟩ ⟨#[36, 99, 32, 119, 32, 36, 46, 10, 32, 36, 99, 32, 119, 32, 36, 46]⟩ = (0, [(⟨#[109]⟩, ⟨#[36, 99, 32, 119, 32, 36, 46, 32, 36, 118, 32, 112, 32, 36, 46, 32, 119, 112, 32, 36, 102, 32, 119, 32, 112, 32, 36, 46, 10, 97, 32, 36, 97, 32, 119, 32, 112, 32, 36, 46]⟩), (⟨#[110]⟩, ⟨#[36, 99, 32, 119, 32, 36, 46, 10, 32, 36, 99, 32, 119, 32, 36, 46]⟩)]) := by decide +kernel
theorem firstReadM : readF ⟨#[36, 99, 32, 119, 32, 36, 46, 32, 36, 118, 32, 112, 32, 36, 46, 32, 119, 112, 32, 36, 102, 32, 119, 32, 112, 32, 36, 46, 10, 97, 32, 36, 97, 32, 119, 32, 112, 32, 36, 46]⟩ 0 emptyDb = (0, 0) := by decide +kernel
theorem firstReadN : readF ⟨#[36, 99, 32, 119, 32, 36, 46, 10, 32, 36, 99, 32, 119, 32, 36, 46]⟩ 0 emptyDb = (13, 12) := by decide +kernel
theorem firstLine : lineAt ⟨#[36, 99, 32, 119, 32, 36, 46, 10, 32, 36, 99, 32, 119, 32, 36, 46]⟩ 12 = 2 ∧ colAt ⟨#[36, 99, 32, 119, 32, 36, 46, 10, 32, 36, 99, 32, 119, 32, 36, 46]⟩ 12 = 5 := by decide +kernel

set_option maxHeartbeats 1000000 in
set_option maxRecDepth 100000 in
theorem firstly_any (w : World) : Calls Try.prog 7 #[] w fun e w' => e = .returned (.bool true) ∧ Kept [] w w' := by
  have VM := fun (w' : World) (x : Nat) (r : Bool) (h : VerAt w' x [(⟨#[109]⟩, ⟨#[36, 99, 32, 119, 32, 36, 46, 32, 36, 118, 32, 112, 32, 36, 46, 32, 119, 112, 32, 36, 102, 32, 119, 32, 112, 32, 36, 46, 10, 97, 32, 36, 97, 32, 119, 32, 112, 32, 36, 46]⟩), (⟨#[110]⟩, ⟨#[36, 99, 32, 119, 32, 36, 46, 10, 32, 36, 99, 32, 119, 32, 36, 46]⟩)] r) => verify_any x 0 [(⟨#[109]⟩, ⟨#[36, 99, 32, 119, 32, 36, 46, 32, 36, 118, 32, 112, 32, 36, 46, 32, 119, 112, 32, 36, 102, 32, 119, 32, 112, 32, 36, 46, 10, 97, 32, 36, 97, 32, 119, 32, 112, 32, 36, 46]⟩), (⟨#[110]⟩, ⟨#[36, 99, 32, 119, 32, 36, 46, 10, 32, 36, 99, 32, 119, 32, 36, 46]⟩)] r ⟨#[109]⟩ ⟨#[36, 99, 32, 119, 32, 36, 46, 32, 36, 118, 32, 112, 32, 36, 46, 32, 119, 112, 32, 36, 102, 32, 119, 32, 112, 32, 36, 46, 10, 97, 32, 36, 97, 32, 119, 32, 112, 32, 36, 46]⟩ w' h (by decide +kernel) (by decide) rfl rfl (by decide) (noInc_of _ (by decide +kernel))
  rw [firstReadM] at VM
  simp only [faultV] at VM
  have VN := fun (w' : World) (x : Nat) (r : Bool) (h : VerAt w' x [(⟨#[109]⟩, ⟨#[36, 99, 32, 119, 32, 36, 46, 32, 36, 118, 32, 112, 32, 36, 46, 32, 119, 112, 32, 36, 102, 32, 119, 32, 112, 32, 36, 46, 10, 97, 32, 36, 97, 32, 119, 32, 112, 32, 36, 46]⟩), (⟨#[110]⟩, ⟨#[36, 99, 32, 119, 32, 36, 46, 10, 32, 36, 99, 32, 119, 32, 36, 46]⟩)] r) => verify_any x 1 [(⟨#[109]⟩, ⟨#[36, 99, 32, 119, 32, 36, 46, 32, 36, 118, 32, 112, 32, 36, 46, 32, 119, 112, 32, 36, 102, 32, 119, 32, 112, 32, 36, 46, 10, 97, 32, 36, 97, 32, 119, 32, 112, 32, 36, 46]⟩), (⟨#[110]⟩, ⟨#[36, 99, 32, 119, 32, 36, 46, 10, 32, 36, 99, 32, 119, 32, 36, 46]⟩)] r ⟨#[110]⟩ ⟨#[36, 99, 32, 119, 32, 36, 46, 10, 32, 36, 99, 32, 119, 32, 36, 46]⟩ w' h (by decide +kernel) (by decide) rfl rfl (by decide) (noInc_of _ (by decide +kernel))
  rw [firstReadN] at VN
  simp only [faultV, firstLine.1, firstLine.2] at VN
  have HVM := (show Hid _ from VM)
  have HVN := (show Hid _ from VN)
  clear VM VN
  have hpe := fun (wx : World) => placeEql ⟨#[110]⟩ 2 5 wx
  go_enter Try.func7, Try.ntmps7
  go_wp2_with fail
  refine (new_any _).mono ?_
  rintro e w1 ⟨rfl, hV1, hk1⟩
  go_wp2_with fail
  refine (vput_any w.heap.size ⟨#[109]⟩ ⟨#[36, 99, 32, 119, 32, 36, 46, 32, 36, 118, 32, 112, 32, 36, 46, 32, 119, 112, 32, 36, 102, 32, 119, 32, 112, 32, 36, 46, 10, 97, 32, 36, 97, 32, 119, 32, 112, 32, 36, 46]⟩ [] false _ hV1 (by decide) (by decide)).mono ?_
  rintro e w2 ⟨rfl, ⟨r2, hV2⟩, hk2⟩
  rw [firstPut1] at hV2 ⊢
  go_wp2_with fail
  refine (vput_any w.heap.size ⟨#[110]⟩ ⟨#[36, 99, 32, 119, 32, 36, 46, 10, 32, 36, 99, 32, 119, 32, 36, 46]⟩ _ r2 _ hV2 (by decide) (by decide)).mono ?_
  rintro e w3 ⟨rfl, ⟨r3, hV3⟩, hk3⟩
  rw [firstPut2] at hV3 ⊢
  go_wp2_with fail
  refine Calls.mono (HVM.out _ _ r3 hV3) ?_
  rintro e w4 ⟨rfl, ⟨r4, hV4⟩, hk4⟩
  have hx4 := TabAt.lt hV4
  have hkk : Kept [w.heap.size] w w4 := (((hk1.mono (by simp)).trans hk2).trans hk3).trans hk4
  go_wp2_with fail
  refine Calls.mono (HVN.out _ _ r4 (TabAt.kept hV4 ((Kept.refl [] _).alloc _) (by simp))) ?_
  rintro e w5 ⟨rfl, ⟨r5, hV5⟩, hk5⟩
  have hF5 : w5.heap[w4.heap.size]? = some (.cells #[.int .i64 0, .string ⟨#[]⟩, .int .i64 0, .int .i64 0] 47 (0, 0)) := hk5.get (heap_alloc_new _ _) (by simp; omega)
  obtain ⟨z0, z1, z2, z3⟩ := zero_cells hF5
  have hF5w := lt_of_get hF5
  have hk6 := (hkk.alloc (.cells #[.int .i64 0, .string ⟨#[]⟩, .int .i64 0, .int .i64 0] 47)).trans hk5
  have hb13 : ((13 : Int) == 0) = false := rfl
  simp only [hb13, Bool.false_eq_true, if_false]
  go_wp2
  go_ret
  exact ⟨rfl, fresh_kept ((hk6.alloc _).alloc _)⟩

end Go.Proofs.Ytkblmflajfomaaa
