import Derived.Deep.CutRange
import Derived.Deep.CutBlock
import Derived.Test.YtcipkfhpcbddiaaGreatQPrtY
/- Package metaproofkeep: parted, where the chunk has a fault, or does not fit. -/
namespace Go.Proofs.YtcipkfhpcbddiaaGreat
open Go.RowKit

/-- What parted holds on the way: its world, what was seen of the text and the chunk. -/
structure PIn (w wc : World) (b x bs : Nat) (T : ByteArray) (o : Option Nat) (SB : Array Value) : Prop where
  W : WorldAt wc b x T o
  sb : wc.heap[bs]? = some (.cells SB 52 (0, 0))
  ne : bs ≠ x
  kept : Kept [x] w wc
theorem PIn.step {w wc wd : World} {b x bs : Nat} {T : ByteArray} {o : Option Nat} {SB : Array Value} (h : PIn w wc b x bs T o SB) (hx : x ≠ b) (k : Kept [x] wc wd) : PIn w wd b x bs T o SB :=
  ⟨h.W.keptX k hx, k.get h.sb (by have := h.ne; simpa using this), h.ne, h.kept.trans k⟩
theorem PIn.still {w wc wd : World} {b x bs : Nat} {T : ByteArray} {o : Option Nat} {SB : Array Value} (h : PIn w wc b x bs T o SB) (k : Kept [] wc wd) : PIn w wd b x bs T o SB :=
  ⟨h.W.still k, k.get h.sb (by simp), h.ne, h.kept.trans (k.mono (by simp))⟩

theorem lt_of_sl {T : ByteArray} : T.size ≤ 1024 → 1 ≤ lineAt T T.size ∧ lineAt T T.size ≤ 1025 := fun h => by have := line_le T T.size; omega

set_option maxHeartbeats 4000000 in
set_option maxRecDepth 100000 in
theorem parted_bad (b x : Nat) (T c U K I : ByteArray) (o : Option Nat) (fs : List (ByteArray × ByteArray)) (w : World) (hW : WorldAt w b x T o) (hV : SomeAt w x fs) (hx : x ≠ b) (hM : MOk 0 fs) (hT : Fine T) (hc : c.size ≤ 1073741824) (hh : holdsF c = false)
    (HUU : Hid (T ++ ⟨#[10]⟩ ++ c = U)) (HKK : Hid (T ++ ⟨#[10, 36, 40, 32, 97, 32, 36, 91, 32, 99, 111, 109, 109, 101, 110, 116, 32, 36, 46, 32, 36, 41, 10]⟩ ++ c = K)) (HII : Hid (⟨#[36, 91, 32, 105, 32, 36, 93, 32, 36, 91, 32, 109, 32, 36, 93, 32, 36, 91, 32, 105, 32, 36, 93, 10]⟩ ++ c = I)) (r ln cl : Int) (M : List Rw) (S : Hid (Sees b x T c U K I o r ln cl (rowsM T ++ M) (rowsM T ++ M.map (mapRw (πL 1))) ((rowsM T).map (mapRw πF) ++ M.map (mapRw (πL (1 - lineAt T T.size)))))) (hl : ¬ 1024 < U.size) (hr : (r == 0) = false) (hln : 1 ≤ ln ∧ ln ≤ 1100) :
    Calls Tryz.prog 9 #[.pointer (some ⟨b, 0, none⟩), .string c] w fun e w' => e = .returned (.bool true) ∧ Kept [x] w w' := by
  have hTs := hT.size
  have hbw := hW.lt
  have hxw := hV.lt
  obtain ⟨c0, c1, -⟩ := hW.cells
  have hlT := lt_of_sl hTs
  have hUs := S.out.su
  have hKs := S.out.sk
  have hIs := S.out.si
  have HSU := (show Hid _ from S.out.u hl fs w hM hW hV)
  have HLN := (show Hid _ from fun w' => lines_any T w' (by omega))
  obtain ⟨lT, HLT⟩ : ∃ lT, Hid (lineAt T T.size = lT) := ⟨_, rfl⟩
  rw [HLT.out] at S HLN hlT
  go_enter Tryz.func9, Tryz.ntmps9
  go_wp2_with (go_at_call 17; refine (kholds_any _ _ (by omega)).mono ?_; rintro e w9 ⟨rfl, hw9⟩; rw [hw9, hh])
  rw [HUU.out]
  refine Calls.mono HSU.out ?_
  rintro e w2 ⟨lU, -, os, rfl, -, -, hW2, hV2, hk2⟩
  rw [if_neg (by rw [hr]; simp)]
  simp only [seenV]
  have hb2 := hW2.lt
  have hx2 := hV2.lt
  clear c0 c1
  obtain ⟨c0, c1, c2⟩ := hW2.cells
  rw [sl_eq hW2.rows] at c2
  have hnl := hT.rws.len
  obtain ⟨AO, HAO⟩ : ∃ AO, Hid (adrO o = AO) := ⟨_, rfl⟩
  obtain ⟨n, Hn⟩ : ∃ n, Hid ((rowsM T).length = n) := ⟨_, rfl⟩
  rw [HAO.out, Hn.out] at c2
  rw [Hn.out] at hnl
  obtain ⟨SB, hSBd⟩ : ∃ SB : Array Value, SB = #[.slice none 0 0, .int .i64 r, .string ⟨#[109]⟩, .int .i64 ln, .int .i64 cl, .int .i64 6] := ⟨_, rfl⟩
  obtain ⟨X, hX⟩ : ∃ X, X = w2.alloc (.cells #[.slice none 0 0, .int .i64 r, .string ⟨#[109]⟩, .int .i64 ln, .int .i64 cl, .int .i64 6] 52) := ⟨_, rfl⟩
  have kX : Kept [] w2 X := by rw [hX]; exact (Kept.refl [] _).alloc _
  have PX : PIn w X b x w2.heap.size T o SB := ⟨hW2.still kX, by rw [hX, hSBd]; exact heap_alloc_new _ _, by omega, hk2.trans (kX.mono (by simp))⟩
  have hVX := hV2.kept kX (by simp)
  have HX := (show Hid _ from hX.symm)
  clear hX
  by_cases hk : 1024 < K.size
  · have HSK := (show Hid _ from see_long b x T K o _ X PX.W hVX hx hk (by omega))
    go_wp2_with fail
    rw [HX.out, HKK.out]
    refine Calls.mono HSK.out ?_
    rintro e w3 ⟨rfl, hW3, hV3, hk3⟩
    simp only [seenV]
    obtain ⟨X3, hX3⟩ : ∃ X3, X3 = w3.alloc (.cells #[.slice none 0 0, .int .i64 0, .string ⟨#[]⟩, .int .i64 0, .int .i64 0, .int .i64 3] 52) := ⟨_, rfl⟩
    have k3 : Kept [] w3 X3 := by rw [hX3]; exact (Kept.refl [] _).alloc _
    have hPI := (PX.step hx hk3).still k3
    have hV3x := hV3.kept k3 (by simp)
    have HX3 := (show Hid _ from hX3.symm)
    clear hX3
    go_upto_region 23 with fail
    rw [HX3.out]
    go_cut [13] from 108 (fun s13 wc => s13 = .int .i64 0 ∧ PIn w wc b x w2.heap.size T o SB ∧ SomeAt wc x [(⟨#[109]⟩, U), (⟨#[105]⟩, T)])
    case first =>
      obtain ⟨d0, d1, -⟩ := hPI.W.cells
      have hb3 := hPI.W.lt
      go_region_with (go_at_call 14; refine (vput_any x ⟨#[105]⟩ T [(⟨#[109]⟩, U)] _ (by exact hV3x.kept (Kept.refl [] _).drew (by simp)) (by decide) (by omega)).mono ?_; rintro e w4 ⟨rfl, hV4, -, hk4⟩)
      all_goals
        rw [put_i U T hTs] at hV4 ⊢
        have hP4 := (hPI.still (Kept.refl [] _).drew).step hx hk4
        go_wp2_with fail
        go_meet
        case rel => exact ⟨rfl, hP4, hV4⟩
    case rest =>
      obtain ⟨rfl, hP4, hV4⟩ := hcut
      obtain ⟨d0, d1, -⟩ := hP4.W.cells
      have hb4 := hP4.W.lt
      have hx4 := hV4.lt
      by_cases hI : 1024 < I.size
      · have HSL := (show Hid _ from see_long b x T I o _ wc hP4.W hV4 hx hI (by omega))
        go_wp2_with fail
        rw [HII.out]
        refine Calls.mono HSL.out ?_
        rintro e w5 ⟨rfl, hW5, hV5, hk5⟩
        simp only [seenV]
        have hb5 := hW5.lt
        go_wp2_with fail
        refine (back_any (N := 1) (by omega) b x T o _ _ (hW5.still ((Kept.refl [] _).alloc _)) (hV5.kept ((Kept.refl [] _).alloc _) (by simp)) hx (mok_two _ T hl hTs) hT).mono ?_
        rintro e w6 ⟨rfl, -, -, hk6⟩
        go_wp2
        go_ret
        exact ⟨rfl, ((hP4.kept.trans hk5).alloc _).trans hk6⟩
      · have SI := S.out.i hI _ wc hP4.W hV4
        rw [HLT.out] at SI
        have HSI := (show Hid _ from SI)
        clear SI
        go_wp2_with fail
        rw [HII.out]
        refine Calls.mono HSI.out ?_
        rintro e w5 ⟨l5, -, o5, rfl, -, -, hW5, hV5, hk5⟩
        rw [if_neg (by rw [hr]; simp)]
        simp only [seenV]
        have hb5 := hW5.lt
        have hP5 := hP4.step hx hk5
        have hsb := hP5.sb
        rw [hSBd] at hsb
        obtain ⟨X6, hX6⟩ : ∃ X6, X6 = w5.alloc (.cells #[.slice none 0 0, .int .i64 r, .string ⟨#[109]⟩, .int .i64 (ln + (1 - lT)), .int .i64 cl, .int .i64 6] 52) := ⟨_, rfl⟩
        have k6 : Kept [] w5 X6 := by rw [hX6]; exact (Kept.refl [] _).alloc _
        have b6 : X6.heap[w5.heap.size]? = some (.cells #[.slice none 0 0, .int .i64 r, .string ⟨#[109]⟩, .int .i64 (ln + (1 - lT)), .int .i64 cl, .int .i64 6] 52 (0, 0)) := by rw [hX6]; exact heap_alloc_new _ _
        have sb6 := k6.get hsb (by simp)
        obtain ⟨y0, y1, y2, y3, y4, y5⟩ := seen_cells sb6
        obtain ⟨z0, z1, z2, z3, z4, z5⟩ := seen_cells b6
        obtain ⟨f0, f1, -⟩ := (hW5.still k6).cells
        have hz6 := lt_of_get sb6
        have hz6' := lt_of_get b6
        have hb6 := (hW5.still k6).lt
        have HX6 := (show Hid _ from hX6.symm)
        have HM : Hid (∀ w', Calls Tryz.prog 19 #[.agg #[.int .i64 r, .string ⟨#[109]⟩, .int .i64 (ln + (1 - lT)), .int .i64 cl], .agg #[.int .i64 r, .string ⟨#[109]⟩, .int .i64 ln, .int .i64 cl], .int .i64 (lT - 1)] w' fun e w'' => e = .returned (.bool true) ∧ Kept [] w' w'') := fun w' => by
          have h := moved_any r ⟨#[109]⟩ (ln + (1 - lT)) cl (lT - 1) w' hr (by omega) (by omega)
          rw [show ln + (1 - lT) + (lT - 1) = ln by omega] at h; exact h
        clear hX6 d0 d1
        go_upto_region 29 with fail
        rw [HX6.out]
        go_upto_region 34 with (go_at_call 22; refine (HLN.out _).mono ?_; rintro e w9 ⟨rfl, hw9⟩; rw [hw9])
        go_wp2_with fail
        refine Calls.mono (HM.out _) ?_
        rintro e w7 ⟨rfl, k7⟩
        have sb7 := k7.get sb6 (by simp)
        obtain ⟨-, -, -, -, -, q5⟩ := seen_cells sb7
        have hz7 := lt_of_get sb7
        clear y0 y1 y2 y3 y4 y5 z0 z1 z2 z3 z4 z5 f0 f1
        go_wp2_with fail
        refine (back_any (N := 1) (by omega) b x T o _ _ ((hW5.still k6).still k7) ((hV5.kept k6 (by simp)).kept k7 (by simp)) hx (mok_two _ T hI hTs) hT).mono ?_
        rintro e w8 ⟨rfl, -, -, hk8⟩
        go_wp2
        go_ret
        exact ⟨rfl, ((hP4.kept.trans hk5).trans ((k6.trans k7).mono (by simp))).trans hk8⟩
  · have HSK := (show Hid _ from S.out.k hk _ X PX.W hVX)
    go_wp2_with fail
    rw [HX.out, HKK.out]
    refine Calls.mono HSK.out ?_
    rintro e w3 ⟨l3, -, o3, rfl, -, -, hW3, hV3, hk3⟩
    rw [if_neg (by rw [hr]; simp)]
    simp only [seenV]
    obtain ⟨X3, hX3⟩ : ∃ X3, X3 = w3.alloc (.cells #[.slice none 0 0, .int .i64 r, .string ⟨#[109]⟩, .int .i64 (ln + 1), .int .i64 cl, .int .i64 6] 52) := ⟨_, rfl⟩
    have k3 : Kept [] w3 X3 := by rw [hX3]; exact (Kept.refl [] _).alloc _
    have b3 : X3.heap[w3.heap.size]? = some (.cells #[.slice none 0 0, .int .i64 r, .string ⟨#[109]⟩, .int .i64 (ln + 1), .int .i64 cl, .int .i64 6] 52 (0, 0)) := by rw [hX3]; exact heap_alloc_new _ _
    have hP3 := (PX.step hx hk3).still k3
    have hV3' := hV3.kept k3 (by simp)
    have sb3 := hP3.sb
    rw [hSBd] at sb3
    obtain ⟨y0, y1, y2, y3, y4, y5⟩ := seen_cells sb3
    obtain ⟨z0, z1, z2, z3, z4, z5⟩ := seen_cells b3
    have hz3 := lt_of_get sb3
    have hz3' := lt_of_get b3
    have HX3 := (show Hid _ from hX3.symm)
    have HM3 := (show Hid _ from fun w' => moved_any r ⟨#[109]⟩ ln cl 1 w' hr (by omega) (by omega))
    clear hX3
    go_upto_region 12 with fail
    rw [HX3.out]
    go_wp2_with fail
    refine Calls.mono (HM3.out _) ?_
    rintro e w3b ⟨rfl, k3b⟩
    have hPI := hP3.still k3b
    have hV3x := hV3'.kept k3b (by simp)
    have sb3b := hPI.sb
    rw [hSBd] at sb3b
    have b3b := k3b.get b3 (by simp)
    clear y0 y1 y2 y3 y4 y5 z0 z1 z2 z3 z4 z5
    obtain ⟨y0, y1, y2, y3, y4, y5⟩ := seen_cells sb3b
    obtain ⟨z0, z1, z2, z3, z4, z5⟩ := seen_cells b3b
    have hz3b := lt_of_get sb3b
    have hz3b' := lt_of_get b3b
    go_upto_region 23 with fail
    clear y0 y1 y2 y3 y4 y5 z0 z1 z2 z3 z4 z5
    go_cut [13] from 108 (fun s13 wc => s13 = .int .i64 0 ∧ PIn w wc b x w2.heap.size T o SB ∧ SomeAt wc x [(⟨#[109]⟩, K), (⟨#[105]⟩, T)])
    case first =>
      obtain ⟨d0, d1, -⟩ := hPI.W.cells
      have hb3 := hPI.W.lt
      go_region_with (go_at_call 14; refine (vput_any x ⟨#[105]⟩ T [(⟨#[109]⟩, K)] _ (by exact hV3x.kept (Kept.refl [] _).drew (by simp)) (by decide) (by omega)).mono ?_; rintro e w4 ⟨rfl, hV4, -, hk4⟩)
      all_goals
        rw [put_i K T hTs] at hV4 ⊢
        have hP4 := (hPI.still (Kept.refl [] _).drew).step hx hk4
        go_wp2_with fail
        go_meet
        case rel => exact ⟨rfl, hP4, hV4⟩
    case rest =>
      obtain ⟨rfl, hP4, hV4⟩ := hcut
      obtain ⟨d0, d1, -⟩ := hP4.W.cells
      have hb4 := hP4.W.lt
      have hx4 := hV4.lt
      by_cases hI : 1024 < I.size
      · have HSL := (show Hid _ from see_long b x T I o _ wc hP4.W hV4 hx hI (by omega))
        go_wp2_with fail
        rw [HII.out]
        refine Calls.mono HSL.out ?_
        rintro e w5 ⟨rfl, hW5, hV5, hk5⟩
        simp only [seenV]
        have hb5 := hW5.lt
        go_wp2_with fail
        refine (back_any (N := 1) (by omega) b x T o _ _ (hW5.still ((Kept.refl [] _).alloc _)) (hV5.kept ((Kept.refl [] _).alloc _) (by simp)) hx (mok_two _ T hk hTs) hT).mono ?_
        rintro e w6 ⟨rfl, -, -, hk6⟩
        go_wp2
        go_ret
        exact ⟨rfl, ((hP4.kept.trans hk5).alloc _).trans hk6⟩
      · have SI := S.out.i hI _ wc hP4.W hV4
        rw [HLT.out] at SI
        have HSI := (show Hid _ from SI)
        clear SI
        go_wp2_with fail
        rw [HII.out]
        refine Calls.mono HSI.out ?_
        rintro e w5 ⟨l5, -, o5, rfl, -, -, hW5, hV5, hk5⟩
        rw [if_neg (by rw [hr]; simp)]
        simp only [seenV]
        have hb5 := hW5.lt
        have hP5 := hP4.step hx hk5
        have hsb := hP5.sb
        rw [hSBd] at hsb
        obtain ⟨X6, hX6⟩ : ∃ X6, X6 = w5.alloc (.cells #[.slice none 0 0, .int .i64 r, .string ⟨#[109]⟩, .int .i64 (ln + (1 - lT)), .int .i64 cl, .int .i64 6] 52) := ⟨_, rfl⟩
        have k6 : Kept [] w5 X6 := by rw [hX6]; exact (Kept.refl [] _).alloc _
        have b6 : X6.heap[w5.heap.size]? = some (.cells #[.slice none 0 0, .int .i64 r, .string ⟨#[109]⟩, .int .i64 (ln + (1 - lT)), .int .i64 cl, .int .i64 6] 52 (0, 0)) := by rw [hX6]; exact heap_alloc_new _ _
        have sb6 := k6.get hsb (by simp)
        obtain ⟨y0, y1, y2, y3, y4, y5⟩ := seen_cells sb6
        obtain ⟨z0, z1, z2, z3, z4, z5⟩ := seen_cells b6
        obtain ⟨f0, f1, -⟩ := (hW5.still k6).cells
        have hz6 := lt_of_get sb6
        have hz6' := lt_of_get b6
        have hb6 := (hW5.still k6).lt
        have HX6 := (show Hid _ from hX6.symm)
        have HM : Hid (∀ w', Calls Tryz.prog 19 #[.agg #[.int .i64 r, .string ⟨#[109]⟩, .int .i64 (ln + (1 - lT)), .int .i64 cl], .agg #[.int .i64 r, .string ⟨#[109]⟩, .int .i64 ln, .int .i64 cl], .int .i64 (lT - 1)] w' fun e w'' => e = .returned (.bool true) ∧ Kept [] w' w'') := fun w' => by
          have h := moved_any r ⟨#[109]⟩ (ln + (1 - lT)) cl (lT - 1) w' hr (by omega) (by omega)
          rw [show ln + (1 - lT) + (lT - 1) = ln by omega] at h; exact h
        clear hX6 d0 d1
        go_upto_region 29 with fail
        rw [HX6.out]
        go_upto_region 34 with (go_at_call 22; refine (HLN.out _).mono ?_; rintro e w9 ⟨rfl, hw9⟩; rw [hw9])
        go_wp2_with fail
        refine Calls.mono (HM.out _) ?_
        rintro e w7 ⟨rfl, k7⟩
        have sb7 := k7.get sb6 (by simp)
        obtain ⟨-, -, -, -, -, q5⟩ := seen_cells sb7
        have hz7 := lt_of_get sb7
        clear y0 y1 y2 y3 y4 y5 z0 z1 z2 z3 z4 z5 f0 f1
        go_wp2_with fail
        refine (back_any (N := 1) (by omega) b x T o _ _ ((hW5.still k6).still k7) ((hV5.kept k6 (by simp)).kept k7 (by simp)) hx (mok_two _ T hI hTs) hT).mono ?_
        rintro e w8 ⟨rfl, -, -, hk8⟩
        go_wp2
        go_ret
        exact ⟨rfl, ((hP4.kept.trans hk5).trans ((k6.trans k7).mono (by simp))).trans hk8⟩

end Go.Proofs.YtcipkfhpcbddiaaGreat
