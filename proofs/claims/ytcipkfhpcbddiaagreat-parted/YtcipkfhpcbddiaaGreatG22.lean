/- Our texts: Prt2, Prt3a, Prt3b, First, PartedEnd. -/
import Derived.Deep.CutRange
import Derived.Deep.CutBlock
import Derived.Test.YtcipkfhpcbddiaaGreatG19
import Derived.Test.YtcipkfhpcbddiaaGreatG20
import Derived.Test.YtcipkfhpcbddiaaGreatG21
/- Package metaproofkeep: parted, where the chunk has a fault, or does not fit. -/
namespace Go.Proofs.YtcipkfhpcbddiaaGreat
open Go.RowKit

/-- What parted holds on the way: its world, what was seen of the text and the chunk. -/
structure PIn (w wc : World) (b x bs : Nat) (T : ByteArray) (o : Option Nat) (SB : Array Value) : Prop where
  W : WorldAt wc b x T o
  sb : wc.heap[bs]? = some (.cells SB 52 (0, 0))
  ne : bs ≠ x
  kept : Kept [x] w wc
theorem PIn.step {w wc wd : World} {b x bs : Nat} {T : ByteArray} {o : Option Nat} {SB : Array Value} (h : PIn w wc b x bs T o SB) (hx : x ≠ b) (k : Kept [x] wc wd) : PIn w wd b x bs T o SB :=
  ⟨h.W.keptX k hx, k.get h.sb (by have := h.ne; simpa using this), h.ne, h.kept.trans k⟩
theorem PIn.still {w wc wd : World} {b x bs : Nat} {T : ByteArray} {o : Option Nat} {SB : Array Value} (h : PIn w wc b x bs T o SB) (k : Kept [] wc wd) : PIn w wd b x bs T o SB :=
  ⟨h.W.still k, k.get h.sb (by simp), h.ne, h.kept.trans (k.mono (by simp))⟩

theorem lt_of_sl {T : ByteArray} : T.size ≤ 1024 → 1 ≤ lineAt T T.size ∧ lineAt T T.size ≤ 1025 := fun h => by have := line_le T T.size; omega

set_option maxHeartbeats 4000000 in
set_option maxRecDepth 100000 in
theorem parted_bad (b x : Nat) (T c U K I : ByteArray) (o : Option Nat) (fs : List (ByteArray × ByteArray)) (w : World) (hW : WorldAt w b x T o) (hV : SomeAt w x fs) (hx : x ≠ b) (hM : MOk 0 fs) (hT : Fine T) (hc : c.size ≤ 1073741824) (hh : holdsF c = false)
    (HUU : Hid (T ++ ⟨#[10]⟩ ++ c = U)) (HKK : Hid (T ++ ⟨#[10, 36, 40, 32, 97, 32, 36, 91, 32, 99, 111, 109, 109, 101, 110, 116, 32, 36, 46, 32, 36, 41, 10]⟩ ++ c = K)) (HII : Hid (⟨#[36, 91, 32, 105, 32, 36, 93, 32, 36, 91, 32, 109, 32, 36, 93, 32, 36, 91, 32, 105, 32, 36, 93, 10]⟩ ++ c = I)) (r ln cl : Int) (M : List Rw) (S : Hid (Sees b x T c U K I o r ln cl (rowsM T ++ M) (rowsM T ++ M.map (mapRw (πL 1))) ((rowsM T).map (mapRw πF) ++ M.map (mapRw (πL (1 - lineAt T T.size)))))) (hl : ¬ 1024 < U.size) (hr : (r == 0) = false) (hln : 1 ≤ ln ∧ ln ≤ 1100) :
    Calls Tryz.prog 9 #[.pointer (some ⟨b, 0, none⟩), .string c] w fun e w' => e = .returned (.bool true) ∧ Kept [x] w w' := by
  have hTs := hT.size
  have hbw := hW.lt
  have hxw := hV.lt
  obtain ⟨c0, c1, -⟩ := hW.cells
  have hlT := lt_of_sl hTs
  have hUs := S.out.su
  have hKs := S.out.sk
  have hIs := S.out.si
  have HSU := (show Hid _ from S.out.u hl fs w hM hW hV)
  have HLN := (show Hid _ from fun w' => lines_any T w' (by omega))
  obtain ⟨lT, HLT⟩ : ∃ lT, Hid (lineAt T T.size = lT) := ⟨_, rfl⟩
  rw [HLT.out] at S HLN hlT
  go_enter Tryz.func9, Tryz.ntmps9
  go_wp2_with (go_at_call 17; refine (kholds_any _ _ (by omega)).mono ?_; rintro e w9 ⟨rfl, hw9⟩; rw [hw9, hh])
  rw [HUU.out]
  refine Calls.mono HSU.out ?_
  rintro e w2 ⟨lU, -, os, rfl, -, -, hW2, hV2, hk2⟩
  rw [if_neg (by rw [hr]; simp)]
  simp only [seenV]
  have hb2 := hW2.lt
  have hx2 := hV2.lt
  clear c0 c1
  obtain ⟨c0, c1, c2⟩ := hW2.cells
  rw [sl_eq hW2.rows] at c2
  have hnl := hT.rws.len
  obtain ⟨AO, HAO⟩ : ∃ AO, Hid (adrO o = AO) := ⟨_, rfl⟩
  obtain ⟨n, Hn⟩ : ∃ n, Hid ((rowsM T).length = n) := ⟨_, rfl⟩
  rw [HAO.out, Hn.out] at c2
  rw [Hn.out] at hnl
  obtain ⟨SB, hSBd⟩ : ∃ SB : Array Value, SB = #[.slice none 0 0, .int .i64 r, .string ⟨#[109]⟩, .int .i64 ln, .int .i64 cl, .int .i64 6] := ⟨_, rfl⟩
  obtain ⟨X, hX⟩ : ∃ X, X = w2.alloc (.cells #[.slice none 0 0, .int .i64 r, .string ⟨#[109]⟩, .int .i64 ln, .int .i64 cl, .int .i64 6] 52) := ⟨_, rfl⟩
  have kX : Kept [] w2 X := by rw [hX]; exact (Kept.refl [] _).alloc _
  have PX : PIn w X b x w2.heap.size T o SB := ⟨hW2.still kX, by rw [hX, hSBd]; exact heap_alloc_new _ _, by omega, hk2.trans (kX.mono (by simp))⟩
  have hVX := hV2.kept kX (by simp)
  have HX := (show Hid _ from hX.symm)
  clear hX
  by_cases hk : 1024 < K.size
  · have HSK := (show Hid _ from see_long b x T K o _ X PX.W hVX hx hk (by omega))
    go_wp2_with fail
    rw [HX.out, HKK.out]
    refine Calls.mono HSK.out ?_
    rintro e w3 ⟨rfl, hW3, hV3, hk3⟩
    simp only [seenV]
    obtain ⟨X3, hX3⟩ : ∃ X3, X3 = w3.alloc (.cells #[.slice none 0 0, .int .i64 0, .string ⟨#[]⟩, .int .i64 0, .int .i64 0, .int .i64 3] 52) := ⟨_, rfl⟩
    have k3 : Kept [] w3 X3 := by rw [hX3]; exact (Kept.refl [] _).alloc _
    have hPI := (PX.step hx hk3).still k3
    have hV3x := hV3.kept k3 (by simp)
    have HX3 := (show Hid _ from hX3.symm)
    clear hX3
    go_upto_region 23 with fail
    rw [HX3.out]
    go_cut [13] from 108 (fun s13 wc => s13 = .int .i64 0 ∧ PIn w wc b x w2.heap.size T o SB ∧ SomeAt wc x [(⟨#[109]⟩, U), (⟨#[105]⟩, T)])
    case first =>
      obtain ⟨d0, d1, -⟩ := hPI.W.cells
      have hb3 := hPI.W.lt
      go_region_with (go_at_call 14; refine (vput_any x ⟨#[105]⟩ T [(⟨#[109]⟩, U)] _ (by exact hV3x.kept (Kept.refl [] _).drew (by simp)) (by decide) (by omega)).mono ?_; rintro e w4 ⟨rfl, hV4, -, hk4⟩)
      all_goals
        rw [put_i U T hTs] at hV4 ⊢
        have hP4 := (hPI.still (Kept.refl [] _).drew).step hx hk4
        go_wp2_with fail
        go_meet
        case rel => exact ⟨rfl, hP4, hV4⟩
    case rest =>
      obtain ⟨rfl, hP4, hV4⟩ := hcut
      obtain ⟨d0, d1, -⟩ := hP4.W.cells
      have hb4 := hP4.W.lt
      have hx4 := hV4.lt
      by_cases hI : 1024 < I.size
      · have HSL := (show Hid _ from see_long b x T I o _ wc hP4.W hV4 hx hI (by omega))
        go_wp2_with fail
        rw [HII.out]
        refine Calls.mono HSL.out ?_
        rintro e w5 ⟨rfl, hW5, hV5, hk5⟩
        simp only [seenV]
        have hb5 := hW5.lt
        go_wp2_with fail
        refine (back_any (N := 1) (by omega) b x T o _ _ (hW5.still ((Kept.refl [] _).alloc _)) (hV5.kept ((Kept.refl [] _).alloc _) (by simp)) hx (mok_two _ T hl hTs) hT).mono ?_
        rintro e w6 ⟨rfl, -, -, hk6⟩
        go_wp2
        go_ret
        exact ⟨rfl, ((hP4.kept.trans hk5).alloc _).trans hk6⟩
      · have SI := S.out.i hI _ wc hP4.W hV4
        rw [HLT.out] at SI
        have HSI := (show Hid _ from SI)
        clear SI
        go_wp2_with fail
        rw [HII.out]
        refine Calls.mono HSI.out ?_
        rintro e w5 ⟨l5, -, o5, rfl, -, -, hW5, hV5, hk5⟩
        rw [if_neg (by rw [hr]; simp)]
        simp only [seenV]
        have hb5 := hW5.lt
        have hP5 := hP4.step hx hk5
        have hsb := hP5.sb
        rw [hSBd] at hsb
        obtain ⟨X6, hX6⟩ : ∃ X6, X6 = w5.alloc (.cells #[.slice none 0 0, .int .i64 r, .string ⟨#[109]⟩, .int .i64 (ln + (1 - lT)), .int .i64 cl, .int .i64 6] 52) := ⟨_, rfl⟩
        have k6 : Kept [] w5 X6 := by rw [hX6]; exact (Kept.refl [] _).alloc _
        have b6 : X6.heap[w5.heap.size]? = some (.cells #[.slice none 0 0, .int .i64 r, .string ⟨#[109]⟩, .int .i64 (ln + (1 - lT)), .int .i64 cl, .int .i64 6] 52 (0, 0)) := by rw [hX6]; exact heap_alloc_new _ _
        have sb6 := k6.get hsb (by simp)
        obtain ⟨y0, y1, y2, y3, y4, y5⟩ := seen_cells sb6
        obtain ⟨z0, z1, z2, z3, z4, z5⟩ := seen_cells b6
        obtain ⟨f0, f1, -⟩ := (hW5.still k6).cells
        have hz6 := lt_of_get sb6
        have hz6' := lt_of_get b6
        have hb6 := (hW5.still k6).lt
        have HX6 := (show Hid _ from hX6.symm)
        have HM : Hid (∀ w', Calls Tryz.prog 19 #[.agg #[.int .i64 r, .string ⟨#[109]⟩, .int .i64 (ln + (1 - lT)), .int .i64 cl], .agg #[.int .i64 r, .string ⟨#[109]⟩, .int .i64 ln, .int .i64 cl], .int .i64 (lT - 1)] w' fun e w'' => e = .returned (.bool true) ∧ Kept [] w' w'') := fun w' => by
          have h := moved_any r ⟨#[109]⟩ (ln + (1 - lT)) cl (lT - 1) w' hr (by omega) (by omega)
          rw [show ln + (1 - lT) + (lT - 1) = ln by omega] at h; exact h
        clear hX6 d0 d1
        go_upto_region 29 with fail
        rw [HX6.out]
        go_upto_region 34 with (go_at_call 22; refine (HLN.out _).mono ?_; rintro e w9 ⟨rfl, hw9⟩; rw [hw9])
        go_wp2_with fail
        refine Calls.mono (HM.out _) ?_
        rintro e w7 ⟨rfl, k7⟩
        have sb7 := k7.get sb6 (by simp)
        obtain ⟨-, -, -, -, -, q5⟩ := seen_cells sb7
        have hz7 := lt_of_get sb7
        clear y0 y1 y2 y3 y4 y5 z0 z1 z2 z3 z4 z5 f0 f1
        go_wp2_with fail
        refine (back_any (N := 1) (by omega) b x T o _ _ ((hW5.still k6).still k7) ((hV5.kept k6 (by simp)).kept k7 (by simp)) hx (mok_two _ T hI hTs) hT).mono ?_
        rintro e w8 ⟨rfl, -, -, hk8⟩
        go_wp2
        go_ret
        exact ⟨rfl, ((hP4.kept.trans hk5).trans ((k6.trans k7).mono (by simp))).trans hk8⟩
  · have HSK := (show Hid _ from S.out.k hk _ X PX.W hVX)
    go_wp2_with fail
    rw [HX.out, HKK.out]
    refine Calls.mono HSK.out ?_
    rintro e w3 ⟨l3, -, o3, rfl, -, -, hW3, hV3, hk3⟩
    rw [if_neg (by rw [hr]; simp)]
    simp only [seenV]
    obtain ⟨X3, hX3⟩ : ∃ X3, X3 = w3.alloc (.cells #[.slice none 0 0, .int .i64 r, .string ⟨#[109]⟩, .int .i64 (ln + 1), .int .i64 cl, .int .i64 6] 52) := ⟨_, rfl⟩
    have k3 : Kept [] w3 X3 := by rw [hX3]; exact (Kept.refl [] _).alloc _
    have b3 : X3.heap[w3.heap.size]? = some (.cells #[.slice none 0 0, .int .i64 r, .string ⟨#[109]⟩, .int .i64 (ln + 1), .int .i64 cl, .int .i64 6] 52 (0, 0)) := by rw [hX3]; exact heap_alloc_new _ _
    have hP3 := (PX.step hx hk3).still k3
    have hV3' := hV3.kept k3 (by simp)
    have sb3 := hP3.sb
    rw [hSBd] at sb3
    obtain ⟨y0, y1, y2, y3, y4, y5⟩ := seen_cells sb3
    obtain ⟨z0, z1, z2, z3, z4, z5⟩ := seen_cells b3
    have hz3 := lt_of_get sb3
    have hz3' := lt_of_get b3
    have HX3 := (show Hid _ from hX3.symm)
    have HM3 := (show Hid _ from fun w' => moved_any r ⟨#[109]⟩ ln cl 1 w' hr (by omega) (by omega))
    clear hX3
    go_upto_region 12 with fail
    rw [HX3.out]
    go_wp2_with fail
    refine Calls.mono (HM3.out _) ?_
    rintro e w3b ⟨rfl, k3b⟩
    have hPI := hP3.still k3b
    have hV3x := hV3'.kept k3b (by simp)
    have sb3b := hPI.sb
    rw [hSBd] at sb3b
    have b3b := k3b.get b3 (by simp)
    clear y0 y1 y2 y3 y4 y5 z0 z1 z2 z3 z4 z5
    obtain ⟨y0, y1, y2, y3, y4, y5⟩ := seen_cells sb3b
    obtain ⟨z0, z1, z2, z3, z4, z5⟩ := seen_cells b3b
    have hz3b := lt_of_get sb3b
    have hz3b' := lt_of_get b3b
    go_upto_region 23 with fail
    clear y0 y1 y2 y3 y4 y5 z0 z1 z2 z3 z4 z5
    go_cut [13] from 108 (fun s13 wc => s13 = .int .i64 0 ∧ PIn w wc b x w2.heap.size T o SB ∧ SomeAt wc x [(⟨#[109]⟩, K), (⟨#[105]⟩, T)])
    case first =>
      obtain ⟨d0, d1, -⟩ := hPI.W.cells
      have hb3 := hPI.W.lt
      go_region_with (go_at_call 14; refine (vput_any x ⟨#[105]⟩ T [(⟨#[109]⟩, K)] _ (by exact hV3x.kept (Kept.refl [] _).drew (by simp)) (by decide) (by omega)).mono ?_; rintro e w4 ⟨rfl, hV4, -, hk4⟩)
      all_goals
        rw [put_i K T hTs] at hV4 ⊢
        have hP4 := (hPI.still (Kept.refl [] _).drew).step hx hk4
        go_wp2_with fail
        go_meet
        case rel => exact ⟨rfl, hP4, hV4⟩
    case rest =>
      obtain ⟨rfl, hP4, hV4⟩ := hcut
      obtain ⟨d0, d1, -⟩ := hP4.W.cells
      have hb4 := hP4.W.lt
      have hx4 := hV4.lt
      by_cases hI : 1024 < I.size
      · have HSL := (show Hid _ from see_long b x T I o _ wc hP4.W hV4 hx hI (by omega))
        go_wp2_with fail
        rw [HII.out]
        refine Calls.mono HSL.out ?_
        rintro e w5 ⟨rfl, hW5, hV5, hk5⟩
        simp only [seenV]
        have hb5 := hW5.lt
        go_wp2_with fail
        refine (back_any (N := 1) (by omega) b x T o _ _ (hW5.still ((Kept.refl [] _).alloc _)) (hV5.kept ((Kept.refl [] _).alloc _) (by simp)) hx (mok_two _ T hk hTs) hT).mono ?_
        rintro e w6 ⟨rfl, -, -, hk6⟩
        go_wp2
        go_ret
        exact ⟨rfl, ((hP4.kept.trans hk5).alloc _).trans hk6⟩
      · have SI := S.out.i hI _ wc hP4.W hV4
        rw [HLT.out] at SI
        have HSI := (show Hid _ from SI)
        clear SI
        go_wp2_with fail
        rw [HII.out]
        refine Calls.mono HSI.out ?_
        rintro e w5 ⟨l5, -, o5, rfl, -, -, hW5, hV5, hk5⟩
        rw [if_neg (by rw [hr]; simp)]
        simp only [seenV]
        have hb5 := hW5.lt
        have hP5 := hP4.step hx hk5
        have hsb := hP5.sb
        rw [hSBd] at hsb
        obtain ⟨X6, hX6⟩ : ∃ X6, X6 = w5.alloc (.cells #[.slice none 0 0, .int .i64 r, .string ⟨#[109]⟩, .int .i64 (ln + (1 - lT)), .int .i64 cl, .int .i64 6] 52) := ⟨_, rfl⟩
        have k6 : Kept [] w5 X6 := by rw [hX6]; exact (Kept.refl [] _).alloc _
        have b6 : X6.heap[w5.heap.size]? = some (.cells #[.slice none 0 0, .int .i64 r, .string ⟨#[109]⟩, .int .i64 (ln + (1 - lT)), .int .i64 cl, .int .i64 6] 52 (0, 0)) := by rw [hX6]; exact heap_alloc_new _ _
        have sb6 := k6.get hsb (by simp)
        obtain ⟨y0, y1, y2, y3, y4, y5⟩ := seen_cells sb6
        obtain ⟨z0, z1, z2, z3, z4, z5⟩ := seen_cells b6
        obtain ⟨f0, f1, -⟩ := (hW5.still k6).cells
        have hz6 := lt_of_get sb6
        have hz6' := lt_of_get b6
        have hb6 := (hW5.still k6).lt
        have HX6 := (show Hid _ from hX6.symm)
        have HM : Hid (∀ w', Calls Tryz.prog 19 #[.agg #[.int .i64 r, .string ⟨#[109]⟩, .int .i64 (ln + (1 - lT)), .int .i64 cl], .agg #[.int .i64 r, .string ⟨#[109]⟩, .int .i64 ln, .int .i64 cl], .int .i64 (lT - 1)] w' fun e w'' => e = .returned (.bool true) ∧ Kept [] w' w'') := fun w' => by
          have h := moved_any r ⟨#[109]⟩ (ln + (1 - lT)) cl (lT - 1) w' hr (by omega) (by omega)
          rw [show ln + (1 - lT) + (lT - 1) = ln by omega] at h; exact h
        clear hX6 d0 d1
        go_upto_region 29 with fail
        rw [HX6.out]
        go_upto_region 34 with (go_at_call 22; refine (HLN.out _).mono ?_; rintro e w9 ⟨rfl, hw9⟩; rw [hw9])
        go_wp2_with fail
        refine Calls.mono (HM.out _) ?_
        rintro e w7 ⟨rfl, k7⟩
        have sb7 := k7.get sb6 (by simp)
        obtain ⟨-, -, -, -, -, q5⟩ := seen_cells sb7
        have hz7 := lt_of_get sb7
        clear y0 y1 y2 y3 y4 y5 z0 z1 z2 z3 z4 z5 f0 f1
        go_wp2_with fail
        refine (back_any (N := 1) (by omega) b x T o _ _ ((hW5.still k6).still k7) ((hV5.kept k6 (by simp)).kept k7 (by simp)) hx (mok_two _ T hI hTs) hT).mono ?_
        rintro e w8 ⟨rfl, -, -, hk8⟩
        go_wp2
        go_ret
        exact ⟨rfl, ((hP4.kept.trans hk5).trans ((k6.trans k7).mono (by simp))).trans hk8⟩

end Go.Proofs.YtcipkfhpcbddiaaGreat

/- Package metaproofkeep: parted, where the chunk has no fault. -/
namespace Go.Proofs.YtcipkfhpcbddiaaGreat
open Go.RowKit

theorem rws_head (R M : List Rw) (j : Nat) (v : Value) (h : (rwsV R)[j]? = some v) : (rwsV (R ++ M)).toArray[j]? = some v := by
  have hl := (List.getElem?_eq_some_iff.1 h).1
  unfold rwsV at h hl ⊢
  rw [List.flatMap_append]
  simp only [List.getElem?_toArray]
  rw [List.getElem?_append_left hl]; exact h
theorem rws_tail (R M : List Rw) (j : Nat) (v : Value) (h : (rwsV M)[j]? = some v) : (rwsV (R ++ M)).toArray[R.length * 6 + j]? = some v := by
  have hR := rwsV_len R
  have e : rwsV (R ++ M) = rwsV R ++ rwsV M := by unfold rwsV; exact List.flatMap_append
  rw [e]
  simp only [List.getElem?_toArray]
  rw [List.getElem?_append_right (by omega), hR, Nat.add_sub_cancel_left]; exact h

theorem row_rel (R M : List Rw) (δ : Int) (k : Nat) (h : k < (R ++ M).length) (h2 : k < (R.map (mapRw πF) ++ M.map (mapRw (πL δ))).length) : (R.map (mapRw πF) ++ M.map (mapRw (πL δ)))[k] = if k < R.length then mapRw πF (R ++ M)[k] else mapRw (πL δ) (R ++ M)[k] := by
  by_cases hk : k < R.length
  · rw [if_pos hk, List.getElem_append_left (by simpa using hk), List.getElem_append_left hk, List.getElem_map]
  · rw [if_neg hk, List.getElem_append_right (by simpa using hk), List.getElem_append_right (by omega), List.getElem_map]
    simp only [List.length_map]
theorem πF_none (l c : Int) : πF ⟨⟨#[]⟩, l, c⟩ = ⟨⟨#[]⟩, l, c⟩ := by unfold πF; exact if_pos (show ((⟨#[]⟩ : ByteArray).toList == []) = true by decide +kernel)
theorem πF_m (l c : Int) : πF ⟨⟨#[109]⟩, l, c⟩ = ⟨⟨#[105]⟩, l, c⟩ := by unfold πF; rw [if_neg (show ¬ ((⟨#[109]⟩ : ByteArray).toList == []) = true by decide +kernel)]
theorem πL_none (δ l c : Int) : πL δ ⟨⟨#[]⟩, l, c⟩ = ⟨⟨#[]⟩, l, c⟩ := by unfold πL; exact if_pos (show ((⟨#[]⟩ : ByteArray).toList == []) = true by decide +kernel)
theorem πL_m (δ l c : Int) : πL δ ⟨⟨#[109]⟩, l, c⟩ = ⟨⟨#[109]⟩, l + δ, c⟩ := by unfold πL; rw [if_neg (show ¬ ((⟨#[109]⟩ : ByteArray).toList == []) = true by decide +kernel)]
theorem rowNeq (s f : ByteArray) (v y l c : Int) (w : World) : (binOp .neq 59 (.agg #[.string s, .int .i64 v, .int .i64 y, .string f, .int .i64 l, .int .i64 c]) (.agg #[.string s, .int .i64 v, .int .i64 y, .string f, .int .i64 l, .int .i64 c])).run Tryz.prog w = .ok (.bool false) w := by
  rw [run_neq_struct, show (10000 : Nat) = 9997 + 3 from rfl, rowEq]; simp
attribute [local go_sem] rowNeq

set_option maxHeartbeats 4000000 in
set_option maxRecDepth 100000 in
theorem parted_goodL (b x : Nat) (T c U K I : ByteArray) (o : Option Nat) (fs : List (ByteArray × ByteArray)) (w : World) (hW : WorldAt w b x T o) (hV : SomeAt w x fs) (hx : x ≠ b) (hM : MOk 0 fs) (hT : Fine T) (hc : c.size ≤ 1073741824) (hh : holdsF c = false)
    (HUU : Hid (T ++ ⟨#[10]⟩ ++ c = U)) (HKK : Hid (T ++ ⟨#[10, 36, 40, 32, 97, 32, 36, 91, 32, 99, 111, 109, 109, 101, 110, 116, 32, 36, 46, 32, 36, 41, 10]⟩ ++ c = K)) (HII : Hid (⟨#[36, 91, 32, 105, 32, 36, 93, 32, 36, 91, 32, 109, 32, 36, 93, 32, 36, 91, 32, 105, 32, 36, 93, 10]⟩ ++ c = I)) (r ln cl : Int) (M : List Rw) (S : Hid (Sees b x T c U K I o r ln cl (rowsM T ++ M) (rowsM T ++ M.map (mapRw (πL 1))) ((rowsM T).map (mapRw πF) ++ M.map (mapRw (πL (1 - lineAt T T.size)))))) (hl : ¬ 1024 < U.size) (hr : (r == 0) = true) (hok : RwsOk (rowsM T ++ M)) (hk : 1024 < K.size) (hfile : Hid (∀ q ∈ rowsM T ++ M, q.at_.file = ⟨#[]⟩ ∨ q.at_.file = ⟨#[109]⟩)) :
    Calls Tryz.prog 9 #[.pointer (some ⟨b, 0, none⟩), .string c] w fun e w' => e = .returned (.bool true) ∧ Kept [x] w w' := by
  have hTs := hT.size
  have hbw := hW.lt
  have hxw := hV.lt
  obtain ⟨c0, c1, -⟩ := hW.cells
  have hlT := lt_of_sl hTs
  have hUs := S.out.su
  have hKs := S.out.sk
  have hIs := S.out.si
  have HSU := (show Hid _ from S.out.u hl fs w hM hW hV)
  have HLN := (show Hid _ from fun w' => lines_any T w' (by omega))
  obtain ⟨lT, HLT⟩ : ∃ lT, Hid (lineAt T T.size = lT) := ⟨_, rfl⟩
  rw [HLT.out] at S HLN hlT
  go_enter Tryz.func9, Tryz.ntmps9
  go_wp2_with (go_at_call 17; refine (kholds_any _ _ (by omega)).mono ?_; rintro e w9 ⟨rfl, hw9⟩; rw [hw9, hh])
  rw [HUU.out]
  refine Calls.mono HSU.out ?_
  rintro e w2 ⟨lU, hlU, os, rfl, hRs, hgs, hW2, hV2, hk2⟩
  have hRs := hRs hr
  rw [if_pos hr]
  rw [hlU] at hRs ⊢
  rw [sl_eq hRs]
  simp only [seenV]
  have hb2 := hW2.lt
  have hx2 := hV2.lt
  clear c0 c1 hlU
  obtain ⟨c0, c1, c2⟩ := hW2.cells
  rw [sl_eq hW2.rows] at c2
  have hNl := hok.len
  have HOK := (show Hid _ from hok)
  clear hok
  obtain ⟨AO, HAO⟩ : ∃ AO, Hid (adrO o = AO) := ⟨_, rfl⟩
  obtain ⟨AS, HAS⟩ : ∃ AS, Hid (adrO os = AS) := ⟨_, rfl⟩
  obtain ⟨n, Hn⟩ : ∃ n, Hid ((rowsM T).length = n) := ⟨_, rfl⟩
  obtain ⟨m, Hm⟩ : ∃ m, Hid (M.length = m) := ⟨_, rfl⟩
  have HNM : Hid ((rowsM T ++ M).length = n + m) := by show _ = _; rw [List.length_append, Hn.out, Hm.out]
  rw [HNM.out] at hNl ⊢
  rw [HAO.out, Hn.out] at c2
  rw [HAS.out]
  have HGS : Hid (∀ g, os = some g → x < g) := fun g hg => by have := hgs g hg; omega
  obtain ⟨SB, hSBd⟩ : ∃ SB : Array Value, SB = #[.slice AS (n + m) (n + m), .int .i64 0, .string ⟨#[]⟩, .int .i64 0, .int .i64 0, .int .i64 0] := ⟨_, rfl⟩
  obtain ⟨X, hX⟩ : ∃ X, X = w2.alloc (.cells #[.slice AS (n + m) (n + m), .int .i64 0, .string ⟨#[]⟩, .int .i64 0, .int .i64 0, .int .i64 0] 52) := ⟨_, rfl⟩
  have kX : Kept [] w2 X := by rw [hX]; exact (Kept.refl [] _).alloc _
  have PX : PIn w X b x w2.heap.size T o SB := ⟨hW2.still kX, by rw [hX, hSBd]; exact heap_alloc_new _ _, by omega, hk2.trans (kX.mono (by simp))⟩
  have hVX := hV2.kept kX (by simp)
  have hRX := hRs.still kX
  have HX := (show Hid _ from hX.symm)
  clear hX hRs hgs
  have HSK := (show Hid _ from see_long b x T K o _ X PX.W hVX hx hk (by omega))
  go_wp2_with fail
  rw [HX.out, HKK.out]
  refine Calls.mono HSK.out ?_
  rintro e w3 ⟨rfl, hW3, hV3, hk3⟩
  simp only [seenV]
  obtain ⟨X3, hX3⟩ : ∃ X3, X3 = w3.alloc (.cells #[.slice none 0 0, .int .i64 0, .string ⟨#[]⟩, .int .i64 0, .int .i64 0, .int .i64 3] 52) := ⟨_, rfl⟩
  have k3 : Kept [] w3 X3 := by rw [hX3]; exact (Kept.refl [] _).alloc _
  have hPI := (PX.step hx hk3).still k3
  have hV3x := hV3.kept k3 (by simp)
  have hRs3 := (hRX.kept hk3 (fun g hg => by have := HGS.out g hg; simp; omega)).still k3
  have HX3 := (show Hid _ from hX3.symm)
  clear hX3
  go_upto_region 23 with fail
  rw [HX3.out]
  go_cut [13] from 108 (fun s13 wc => s13 = .int .i64 0 ∧ PIn w wc b x w2.heap.size T o SB ∧ SomeAt wc x [(⟨#[109]⟩, U), (⟨#[105]⟩, T)] ∧ RowsAt wc os (rowsM T ++ M))
  case first =>
    obtain ⟨d0, d1, -⟩ := hPI.W.cells
    have hb3 := hPI.W.lt
    go_region_with (go_at_call 14; refine (vput_any x ⟨#[105]⟩ T [(⟨#[109]⟩, U)] _ (by exact hV3x.kept (Kept.refl [] _).drew (by simp)) (by decide) (by omega)).mono ?_; rintro e w4 ⟨rfl, hV4, -, hk4⟩)
    all_goals
      rw [put_i U T hTs] at hV4 ⊢
      have hP4 := (hPI.still (Kept.refl [] _).drew).step hx hk4
      go_wp2_with fail
      go_meet
      case rel => exact ⟨rfl, hP4, hV4, hRs3.kept ((Kept.refl [x] _).drew.trans hk4) (fun g hg => by have := HGS.out g hg; simp; omega)⟩
  case rest =>
    obtain ⟨rfl, hP4, hV4, hRs4⟩ := hcut
    obtain ⟨d0, d1, -⟩ := hP4.W.cells
    have hb4 := hP4.W.lt
    have hx4 := hV4.lt
    by_cases hI : 1024 < I.size
    · have HSL := (show Hid _ from see_long b x T I o _ wc hP4.W hV4 hx hI (by omega))
      go_wp2_with fail
      rw [HII.out]
      refine Calls.mono HSL.out ?_
      rintro e w5 ⟨rfl, hW5, hV5, hk5⟩
      simp only [seenV]
      have hb5 := hW5.lt
      go_wp2_with fail
      refine (back_any (N := 1) (by omega) b x T o _ _ (hW5.still ((Kept.refl [] _).alloc _)) (hV5.kept ((Kept.refl [] _).alloc _) (by simp)) hx (mok_two _ T hl hTs) hT).mono ?_
      rintro e w6 ⟨rfl, -, -, hk6⟩
      go_wp2
      go_ret
      exact ⟨rfl, ((hP4.kept.trans hk5).alloc _).trans hk6⟩
    · have SI := S.out.i hI _ wc hP4.W hV4
      rw [HLT.out] at SI
      have HSI := (show Hid _ from SI)
      clear SI
      go_wp2_with fail
      rw [HII.out]
      refine Calls.mono HSI.out ?_
      rintro e w5 ⟨l5, hl5, oi, rfl, hRi, hgi, hW5, hV5, hk5⟩
      have hRi := hRi hr
      rw [if_pos hr]
      rw [hl5] at hRi ⊢
      rw [sl_eq hRi]
      simp only [seenV]
      have HNI : Hid (((rowsM T).map (mapRw πF) ++ M.map (mapRw (πL (1 - lT)))).length = n + m) := by show _ = _; rw [List.length_append, List.length_map, List.length_map, Hn.out, Hm.out]
      rw [HNI.out]
      have hb5 := hW5.lt
      have hP5 := hP4.step hx hk5
      have hsb := hP5.sb
      rw [hSBd] at hsb
      have hRs5 := hRs4.kept hk5 (fun g hg => by have := HGS.out g hg; simp; omega)
      obtain ⟨AI, HAI⟩ : ∃ AI, Hid (adrO oi = AI) := ⟨_, rfl⟩
      rw [HAI.out]
      obtain ⟨X6, hX6⟩ : ∃ X6, X6 = w5.alloc (.cells #[.slice AI (n + m) (n + m), .int .i64 0, .string ⟨#[]⟩, .int .i64 0, .int .i64 0, .int .i64 0] 52) := ⟨_, rfl⟩
      have k6 : Kept [] w5 X6 := by rw [hX6]; exact (Kept.refl [] _).alloc _
      have b6 : X6.heap[w5.heap.size]? = some (.cells #[.slice AI (n + m) (n + m), .int .i64 0, .string ⟨#[]⟩, .int .i64 0, .int .i64 0, .int .i64 0] 52 (0, 0)) := by rw [hX6]; exact heap_alloc_new _ _
      have sb6 := k6.get hsb (by simp)
      obtain ⟨y0, y1, y2, y3, y4, y5⟩ := seen_cells sb6
      obtain ⟨z0, z1, z2, z3, z4, z5⟩ := seen_cells b6
      obtain ⟨f0, f1, -⟩ := (hW5.still k6).cells
      have hz6 := lt_of_get sb6
      have hz6' := lt_of_get b6
      have hb6 := (hW5.still k6).lt
      have HX6 := (show Hid _ from hX6.symm)
      have HM := (show Hid _ from fun w' => moved_zero ⟨#[]⟩ 0 0 (lT - 1) w')
      clear hX6 d0 d1
      go_upto_region 29 with fail
      rw [HX6.out]
      go_upto_region 34 with (go_at_call 22; refine (HLN.out _).mono ?_; rintro e w9 ⟨rfl, hw9⟩; rw [hw9])
      go_wp2_with fail
      refine Calls.mono (HM.out _) ?_
      rintro e w7 ⟨rfl, k7⟩
      have K67 := k6.trans k7
      have sb7 := k7.get sb6 (by simp)
      have b7 := k7.get b6 (by simp)
      have hRs7 := hRs5.still K67
      have hRi7 := hRi.still K67
      have hW7 := hW5.still K67
      have hV7 := hV5.kept K67 (by simp)
      have hKx7 : Kept [x] w w7 := (hP4.kept.trans hk5).trans (K67.mono (by simp))
      clear y0 y1 y2 y3 y4 y5 z0 z1 z2 z3 z4 z5 f0 f1 hb6 hz6 hz6' sb6 b6 hsb hRs5 hRi hRs4
      obtain ⟨y0, -, -, -, -, y5⟩ := seen_cells sb7
      obtain ⟨z0, -, -, -, -, z5⟩ := seen_cells b7
      have hz7 := lt_of_get sb7
      have hz7' := lt_of_get b7
      go_wp2_with fail
      go_loopg [17, 18] (n + m) (fun g iv _ wr => ∃ k : Nat, k ≤ n + m ∧ g = n + m - k ∧ iv = .int .i64 k ∧ Kept [] w7 wr)
      case atStart => exact ⟨0, by omega, by omega, rfl, Kept.refl _ _⟩
      case round =>
        obtain ⟨k, hk9, hg9, rfl, hK9⟩ := hrel
        have sb9 := hK9.get sb7 (by simp)
        have b9 := hK9.get b7 (by simp)
        clear y0 y5 z0 z5
        obtain ⟨y0, -, -, -, -, -⟩ := seen_cells sb9
        obtain ⟨z0, -, -, -, -, -⟩ := seen_cells b9
        have hz9 := lt_of_get sb9
        have hz9' := lt_of_get b9
        by_cases hlt : k < n + m
        · have hkl : k < (rowsM T ++ M).length := by rw [HNM.out]; exact hlt
          have hki : k < ((rowsM T).map (mapRw πF) ++ M.map (mapRw (πL (1 - lT)))).length := by rw [HNI.out]; exact hlt
          cases os with
          | none => have he : rowsM T ++ M = [] := hRs7
                    rw [he] at hkl; simp at hkl
          | some gs =>
            cases oi with
            | none => have he : (rowsM T).map (mapRw πF) ++ M.map (mapRw (πL (1 - lT))) = [] := hRi7
                      rw [he] at hki; simp at hki
            | some gi =>
              have eAS : AS = some ⟨gs, 0, none⟩ := HAS.out.symm
              have eAI : AI = some ⟨gi, 0, none⟩ := HAI.out.symm
              subst eAS eAI
              obtain ⟨a0, a1, a2, a3, a4, a5⟩ := rw_at (hK9.get hRs7.2 (by simp)) (fun j v hj => by simpa using hj) k hkl
              obtain ⟨b0, b1, b2, b3, b4, b5⟩ := rw_at (hK9.get hRi7.2 (by simp)) (fun j v hj => by simpa using hj) k hki
              have hgs9 := lt_of_get (hK9.get hRs7.2 (by simp))
              have hgi9 := lt_of_get (hK9.get hRi7.2 (by simp))
              have hqf := hfile.out _ (List.getElem_mem hkl)
              have hql := HOK.out.line _ (List.getElem_mem hkl)
              rw [row_rel (rowsM T) M (1 - lT) k hkl hki] at b0 b1 b2 b3 b4 b5
              rw [Hn.out] at b0 b1 b2 b3 b4 b5
              generalize (rowsM T ++ M)[k] = q at *
              obtain ⟨la, ve, wy, ⟨fi, li, co⟩⟩ := q
              simp only [LnOk] at hql hqf a0 a1 a2 a3 a4 a5
              have hkI : (k : Int) < ((n + m : Nat) : Int) := by omega
              by_cases hkn : k < n
              · have hkn1 : (k : Int) < (n : Int) := by omega
                rw [if_pos hkn] at b0 b1 b2 b3 b4 b5
                rcases hqf with rfl | rfl
                · simp only [mapRw, πF_none] at b0 b1 b2 b3 b4 b5
                  go_upto_region 48 with fail
                  go_region
                  all_goals
                    go_wp2
                    go_roundg (n + m - (k + 1))
                    case measure => omega
                    case rel => exact ⟨k + 1, by omega, rfl, by go_num, by first | exact (hK9.alloc _).drew | exact hK9.alloc _⟩
                · simp only [mapRw, πF_m] at b0 b1 b2 b3 b4 b5
                  go_upto_region 48 with fail
                  go_region
                  all_goals
                    go_wp2
                    go_roundg (n + m - (k + 1))
                    case measure => omega
                    case rel => exact ⟨k + 1, by omega, rfl, by go_num, by first | exact (hK9.alloc _).drew | exact hK9.alloc _⟩
              · have hkn1 : ¬ (k : Int) < (n : Int) := by omega
                have hkn2 : (k : Int) ≥ (n : Int) := by omega
                rw [if_neg hkn] at b0 b1 b2 b3 b4 b5
                rcases hqf with rfl | rfl
                · simp only [mapRw, πL_none] at b0 b1 b2 b3 b4 b5
                  go_upto_region 48 with fail
                  go_region
                  all_goals
                    go_wp2
                    go_roundg (n + m - (k + 1))
                    case measure => omega
                    case rel => exact ⟨k + 1, by omega, rfl, by go_num, by first | exact (hK9.alloc _).drew | exact hK9.alloc _⟩
                · simp only [mapRw, πL_m] at b0 b1 b2 b3 b4 b5
                  have hli : li + (1 - lT) + (lT - 1) = li := by omega
                  have hwl : IntKind.i64.wrap (li + (1 - lT) + (lT - 1)) = li := by rw [IntKind.wrap_i64]; omega
                  go_upto_region 48 with fail
                  go_region
                  all_goals
                    go_wp2
                    go_roundg (n + m - (k + 1))
                    case measure => omega
                    case rel => exact ⟨k + 1, by omega, rfl, by go_num, by first | exact (hK9.alloc _).drew | exact hK9.alloc _⟩
        · go_wp2_with fail
          refine (back_any (N := 1) (by omega) b x T o _ _ (hW7.still hK9) (hV7.kept hK9 (by simp)) hx (mok_two _ T hI hTs) hT).mono ?_
          rintro e w8 ⟨rfl, -, -, hk8⟩
          go_wp2
          go_ret
          exact ⟨rfl, (hKx7.trans (hK9.mono (by simp))).trans hk8⟩

end Go.Proofs.YtcipkfhpcbddiaaGreat

/- Package metaproofkeep: parted, where the chunk has no fault. -/
namespace Go.Proofs.YtcipkfhpcbddiaaGreat
open Go.RowKit

attribute [local go_sem] rowNeq

set_option maxHeartbeats 4000000 in
set_option maxRecDepth 100000 in
theorem parted_goodK (b x : Nat) (T c U K I : ByteArray) (o : Option Nat) (fs : List (ByteArray × ByteArray)) (w : World) (hW : WorldAt w b x T o) (hV : SomeAt w x fs) (hx : x ≠ b) (hM : MOk 0 fs) (hT : Fine T) (hc : c.size ≤ 1073741824) (hh : holdsF c = false)
    (HUU : Hid (T ++ ⟨#[10]⟩ ++ c = U)) (HKK : Hid (T ++ ⟨#[10, 36, 40, 32, 97, 32, 36, 91, 32, 99, 111, 109, 109, 101, 110, 116, 32, 36, 46, 32, 36, 41, 10]⟩ ++ c = K)) (HII : Hid (⟨#[36, 91, 32, 105, 32, 36, 93, 32, 36, 91, 32, 109, 32, 36, 93, 32, 36, 91, 32, 105, 32, 36, 93, 10]⟩ ++ c = I)) (r ln cl : Int) (M : List Rw) (S : Hid (Sees b x T c U K I o r ln cl (rowsM T ++ M) (rowsM T ++ M.map (mapRw (πL 1))) ((rowsM T).map (mapRw πF) ++ M.map (mapRw (πL (1 - lineAt T T.size)))))) (hl : ¬ 1024 < U.size) (hr : (r == 0) = true) (hok : RwsOk (rowsM T ++ M)) (hk : ¬ 1024 < K.size) (hfile : Hid (∀ q ∈ rowsM T ++ M, q.at_.file = ⟨#[]⟩ ∨ q.at_.file = ⟨#[109]⟩)) :
    Calls Tryz.prog 9 #[.pointer (some ⟨b, 0, none⟩), .string c] w fun e w' => e = .returned (.bool true) ∧ Kept [x] w w' := by
  have hTs := hT.size
  have hbw := hW.lt
  have hxw := hV.lt
  obtain ⟨c0, c1, -⟩ := hW.cells
  have hlT := lt_of_sl hTs
  have hUs := S.out.su
  have hKs := S.out.sk
  have hIs := S.out.si
  have HSU := (show Hid _ from S.out.u hl fs w hM hW hV)
  have HLN := (show Hid _ from fun w' => lines_any T w' (by omega))
  obtain ⟨lT, HLT⟩ : ∃ lT, Hid (lineAt T T.size = lT) := ⟨_, rfl⟩
  rw [HLT.out] at S HLN hlT
  go_enter Tryz.func9, Tryz.ntmps9
  go_wp2_with (go_at_call 17; refine (kholds_any _ _ (by omega)).mono ?_; rintro e w9 ⟨rfl, hw9⟩; rw [hw9, hh])
  rw [HUU.out]
  refine Calls.mono HSU.out ?_
  rintro e w2 ⟨lU, hlU, os, rfl, hRs, hgs, hW2, hV2, hk2⟩
  have hRs := hRs hr
  rw [if_pos hr]
  rw [hlU] at hRs ⊢
  rw [sl_eq hRs]
  simp only [seenV]
  have hb2 := hW2.lt
  have hx2 := hV2.lt
  clear c0 c1 hlU
  obtain ⟨c0, c1, c2⟩ := hW2.cells
  rw [sl_eq hW2.rows] at c2
  have hNl := hok.len
  have HOK := (show Hid _ from hok)
  clear hok
  obtain ⟨AO, HAO⟩ : ∃ AO, Hid (adrO o = AO) := ⟨_, rfl⟩
  obtain ⟨AS, HAS⟩ : ∃ AS, Hid (adrO os = AS) := ⟨_, rfl⟩
  obtain ⟨n, Hn⟩ : ∃ n, Hid ((rowsM T).length = n) := ⟨_, rfl⟩
  obtain ⟨m, Hm⟩ : ∃ m, Hid (M.length = m) := ⟨_, rfl⟩
  have HNM : Hid ((rowsM T ++ M).length = n + m) := by show _ = _; rw [List.length_append, Hn.out, Hm.out]
  rw [HNM.out] at hNl ⊢
  rw [HAO.out, Hn.out] at c2
  rw [HAS.out]
  have HGS : Hid (∀ g, os = some g → x < g) := fun g hg => by have := hgs g hg; omega
  obtain ⟨SB, hSBd⟩ : ∃ SB : Array Value, SB = #[.slice AS (n + m) (n + m), .int .i64 0, .string ⟨#[]⟩, .int .i64 0, .int .i64 0, .int .i64 0] := ⟨_, rfl⟩
  obtain ⟨X, hX⟩ : ∃ X, X = w2.alloc (.cells #[.slice AS (n + m) (n + m), .int .i64 0, .string ⟨#[]⟩, .int .i64 0, .int .i64 0, .int .i64 0] 52) := ⟨_, rfl⟩
  have kX : Kept [] w2 X := by rw [hX]; exact (Kept.refl [] _).alloc _
  have PX : PIn w X b x w2.heap.size T o SB := ⟨hW2.still kX, by rw [hX, hSBd]; exact heap_alloc_new _ _, by omega, hk2.trans (kX.mono (by simp))⟩
  have hVX := hV2.kept kX (by simp)
  have hRX := hRs.still kX
  have HX := (show Hid _ from hX.symm)
  clear hX hRs hgs
  have HSK := (show Hid _ from S.out.k hk _ X PX.W hVX)
  go_wp2_with fail
  rw [HX.out, HKK.out]
  refine Calls.mono HSK.out ?_
  rintro e w3 ⟨l3, hl3, ok3, rfl, hRk, hgk, hW3, hV3, hk3⟩
  have hRk := hRk hr
  rw [if_pos hr]
  rw [hl3] at hRk ⊢
  rw [sl_eq hRk]
  simp only [seenV]
  have HNK : Hid ((rowsM T ++ M.map (mapRw (πL 1))).length = n + m) := by show _ = _; rw [List.length_append, List.length_map, Hn.out, Hm.out]
  rw [HNK.out]
  obtain ⟨AK, HAK⟩ : ∃ AK, Hid (adrO ok3 = AK) := ⟨_, rfl⟩
  rw [HAK.out]
  obtain ⟨X3, hX3⟩ : ∃ X3, X3 = w3.alloc (.cells #[.slice AK (n + m) (n + m), .int .i64 0, .string ⟨#[]⟩, .int .i64 0, .int .i64 0, .int .i64 0] 52) := ⟨_, rfl⟩
  have k3 : Kept [] w3 X3 := by rw [hX3]; exact (Kept.refl [] _).alloc _
  have b3 : X3.heap[w3.heap.size]? = some (.cells #[.slice AK (n + m) (n + m), .int .i64 0, .string ⟨#[]⟩, .int .i64 0, .int .i64 0, .int .i64 0] 52 (0, 0)) := by rw [hX3]; exact heap_alloc_new _ _
  have hP3 := (PX.step hx hk3).still k3
  have hV3' := hV3.kept k3 (by simp)
  have hRs3 := (hRX.kept hk3 (fun g hg => by have := HGS.out g hg; simp; omega)).still k3
  have hRk3 := hRk.still k3
  have sb3 := hP3.sb
  rw [hSBd] at sb3
  obtain ⟨y0, y1, y2, y3, y4, y5⟩ := seen_cells sb3
  obtain ⟨z0, z1, z2, z3, z4, z5⟩ := seen_cells b3
  have hz3 := lt_of_get sb3
  have hz3' := lt_of_get b3
  have HX3 := (show Hid _ from hX3.symm)
  have HM3 := (show Hid _ from fun w' => moved_zero ⟨#[]⟩ 0 0 1 w')
  clear hX3
  go_upto_region 12 with fail
  rw [HX3.out]
  go_upto_if 60 with fail
  go_cut [11] from 61 (fun _ wc => PIn w wc b x w2.heap.size T o SB ∧ SomeAt wc x [(⟨#[109]⟩, K)] ∧ RowsAt wc os (rowsM T ++ M))
  case first =>
    go_wp2_with fail
    refine Calls.mono (HM3.out _) ?_
    rintro e w3b ⟨rfl, k3b⟩
    have sb3b := k3b.get sb3 (by simp)
    have b3b := k3b.get b3 (by simp)
    clear y0 y1 y2 y3 y4 y5 z0 z1 z2 z3 z4 z5
    obtain ⟨y0, y1, y2, y3, y4, y5⟩ := seen_cells sb3b
    obtain ⟨z0, z1, z2, z3, z4, z5⟩ := seen_cells b3b
    have hz3b := lt_of_get sb3b
    have hz3b' := lt_of_get b3b
    cases os with
    | none =>
      have he : rowsM T ++ M = [] := hRs3
      have hn0 : n = 0 := by rw [← Hn.out, (List.append_eq_nil_iff.1 he).1]; rfl
      have hm0 : m = 0 := by rw [← Hm.out, (List.append_eq_nil_iff.1 he).2]; rfl
      have eAS : AS = none := HAS.out.symm
      subst eAS hn0 hm0
      simp only [Nat.add_zero] at sb3b b3b y0 z0 b3 sb3 hSBd ⊢
      go_upto_region 19 with fail
      go_cut [11] from 85 to 93 (fun s11 wc => s11 = .bool true ∧ Kept [] X3 wc)
      case first =>
        go_region_with (go_at_call 20; refine (sameRows_nilBy _ _ _ _ _ _).mono ?_; rintro e w3c ⟨rfl, k3c⟩)
        all_goals
          go_wp2_with fail
          go_meet
          case rel => exact ⟨rfl, k3b.trans ((Kept.refl [] _).drew.trans k3c)⟩
      case rest =>
        obtain ⟨rfl, K3c⟩ := hcut
        have sb3c := K3c.get sb3 (by simp)
        have b3c := K3c.get b3 (by simp)
        clear y0 y1 y2 y3 y4 y5 z0 z1 z2 z3 z4 z5
        obtain ⟨y0, y1, y2, y3, y4, y5⟩ := seen_cells sb3c
        obtain ⟨z0, z1, z2, z3, z4, z5⟩ := seen_cells b3c
        have hz3c := lt_of_get sb3c
        have hz3c' := lt_of_get b3c
        go_upto_region 20 with fail
        go_cut [12] from 94 to 102 (fun s12 wd => s12 = .bool true ∧ Kept [] X3 wd)
        case first =>
          go_region_with (go_at_call 20; refine (sameRows_nilBy _ _ _ _ _ _).mono ?_; rintro e w3d ⟨rfl, k3d⟩)
          all_goals
            go_wp2_with fail
            go_meet
            case rel => exact ⟨rfl, K3c.trans ((Kept.refl [] _).drew.trans k3d)⟩
        case rest =>
          obtain ⟨rfl, K3d⟩ := hcut
          go_wp2_with fail
          go_meet
          case rel => exact ⟨hP3.still K3d, hV3'.kept K3d (by simp), hRs3.still K3d⟩
    | some gs =>
      have hkk : 0 < (rowsM T ++ M.map (mapRw (πL 1))).length := by rw [HNK.out, ← HNM.out]; exact hRs3.1
      cases ok3 with
      | none => have he : rowsM T ++ M.map (mapRw (πL 1)) = [] := hRk3
                rw [he] at hkk; simp at hkk
      | some gk =>
        have eAS : AS = some ⟨gs, 0, none⟩ := HAS.out.symm
        have eAK : AK = some ⟨gk, 0, none⟩ := HAK.out.symm
        subst eAS eAK
        have hnmI : (n : Int) ≤ ((n + m : Nat) : Int) := by omega
        have HS1 : Hid (∀ w', Kept [] X3 w' → ∀ c1 c2, Calls Tryz.prog 20 #[.slice (some ⟨gs, 0, none⟩) n c1, .slice (some ⟨gk, 0, none⟩) n c2, .int .i64 0] w' fun e w'' => e = .returned (.bool true) ∧ Kept [] w' w'') := fun w' q c1 c2 => by
          have h := sameRows_some gs gk c1 c2 (rowsM T) w' _ _ _ _ (q.get hRs3.2 (by simp)) (q.get hRk3.2 (by simp)) (rws_head _ _) (rws_head _ _) (by have := Hn.out; omega) (fun r hr => HOK.out.line r (List.mem_append_left _ hr))
          rw [Hn.out] at h; exact h
        have HS2 : Hid (∀ w', Kept [] X3 w' → ∀ c1 c2, Calls Tryz.prog 20 #[.slice (some ⟨gs, n * 6, none⟩) m c1, .slice (some ⟨gk, n * 6, none⟩) m c2, .int .i64 1] w' fun e w'' => e = .returned (.bool true) ∧ Kept [] w' w'') := fun w' q c1 c2 => by
          have h := sameRows_gen gs gk ((rowsM T).length * 6) ((rowsM T).length * 6) c1 c2 M 1 w' _ _ _ _ (q.get hRs3.2 (by simp)) (q.get hRk3.2 (by simp)) (rws_tail _ _) (rws_tail _ _) (by have := Hm.out; omega) (fun r hr => HOK.out.line r (List.mem_append_right _ hr)) (by omega)
          rw [Hm.out, Hn.out] at h; exact h
        go_upto_region 19 with fail
        go_cut [11] from 85 to 93 (fun s11 wc => s11 = .bool true ∧ Kept [] X3 wc)
        case first =>
          go_region_with (go_at_call 20; refine (HS1.out _ (by exact k3b.trans (Kept.refl [] _).drew) _ _).mono ?_; rintro e w3c ⟨rfl, k3c⟩)
          all_goals
            go_wp2_with fail
            go_meet
            case rel => exact ⟨rfl, k3b.trans ((Kept.refl [] _).drew.trans k3c)⟩
        case rest =>
          obtain ⟨rfl, K3c⟩ := hcut
          have sb3c := K3c.get sb3 (by simp)
          have b3c := K3c.get b3 (by simp)
          clear y0 y1 y2 y3 y4 y5 z0 z1 z2 z3 z4 z5
          obtain ⟨y0, y1, y2, y3, y4, y5⟩ := seen_cells sb3c
          obtain ⟨z0, z1, z2, z3, z4, z5⟩ := seen_cells b3c
          have hz3c := lt_of_get sb3c
          have hz3c' := lt_of_get b3c
          go_upto_region 20 with fail
          go_cut [12] from 94 to 102 (fun s12 wd => s12 = .bool true ∧ Kept [] X3 wd)
          case first =>
            by_cases hm0 : m = 0
            · subst hm0
              simp only [Nat.add_zero] at y0 z0 hnmI
              go_region_with (go_at_call 20; refine (sameRows_nilBy _ _ _ _ _ _).mono ?_; rintro e w3d ⟨rfl, k3d⟩)
              all_goals
                go_wp2_with fail
                go_meet
                case rel => exact ⟨rfl, K3c.trans ((Kept.refl [] _).drew.trans k3d)⟩
            · have hmne : n + m ≠ n := by omega
              have hms : n + m - n = m := by omega
              go_region_with (go_at_call 20; refine (HS2.out _ (by exact K3c.trans (Kept.refl [] _).drew) _ _).mono ?_; rintro e w3d ⟨rfl, k3d⟩)
              all_goals
                go_wp2_with fail
                go_meet
                case rel => exact ⟨rfl, K3c.trans ((Kept.refl [] _).drew.trans k3d)⟩
          case rest =>
            obtain ⟨rfl, K3d⟩ := hcut
            go_wp2_with fail
            go_meet
            case rel => exact ⟨hP3.still K3d, hV3'.kept K3d (by simp), hRs3.still K3d⟩
  case rest =>
    obtain ⟨hPI, hV3x, hRs3⟩ := hcut
    go_upto_region 23 with fail
    go_cut [13] from 108 (fun s13 wc => s13 = .int .i64 0 ∧ PIn w wc b x w2.heap.size T o SB ∧ SomeAt wc x [(⟨#[109]⟩, K), (⟨#[105]⟩, T)] ∧ RowsAt wc os (rowsM T ++ M))
    case first =>
      obtain ⟨d0, d1, -⟩ := hPI.W.cells
      have hb3 := hPI.W.lt
      go_region_with (go_at_call 14; refine (vput_any x ⟨#[105]⟩ T [(⟨#[109]⟩, K)] _ (by exact hV3x.kept (Kept.refl [] _).drew (by simp)) (by decide) (by omega)).mono ?_; rintro e w4 ⟨rfl, hV4, -, hk4⟩)
      all_goals
        rw [put_i K T hTs] at hV4 ⊢
        have hP4 := (hPI.still (Kept.refl [] _).drew).step hx hk4
        go_wp2_with fail
        go_meet
        case rel => exact ⟨rfl, hP4, hV4, hRs3.kept ((Kept.refl [x] _).drew.trans hk4) (fun g hg => by have := HGS.out g hg; simp; omega)⟩
    case rest =>
      obtain ⟨rfl, hP4, hV4, hRs4⟩ := hcut
      obtain ⟨d0, d1, -⟩ := hP4.W.cells
      have hb4 := hP4.W.lt
      have hx4 := hV4.lt
      by_cases hI : 1024 < I.size
      · have HSL := (show Hid _ from see_long b x T I o _ wc hP4.W hV4 hx hI (by omega))
        go_wp2_with fail
        rw [HII.out]
        refine Calls.mono HSL.out ?_
        rintro e w5 ⟨rfl, hW5, hV5, hk5⟩
        simp only [seenV]
        have hb5 := hW5.lt
        go_wp2_with fail
        refine (back_any (N := 1) (by omega) b x T o _ _ (hW5.still ((Kept.refl [] _).alloc _)) (hV5.kept ((Kept.refl [] _).alloc _) (by simp)) hx (mok_two _ T hk hTs) hT).mono ?_
        rintro e w6 ⟨rfl, -, -, hk6⟩
        go_wp2
        go_ret
        exact ⟨rfl, ((hP4.kept.trans hk5).alloc _).trans hk6⟩
      · have SI := S.out.i hI _ wc hP4.W hV4
        rw [HLT.out] at SI
        have HSI := (show Hid _ from SI)
        clear SI
        go_wp2_with fail
        rw [HII.out]
        refine Calls.mono HSI.out ?_
        rintro e w5 ⟨l5, hl5, oi, rfl, hRi, hgi, hW5, hV5, hk5⟩
        have hRi := hRi hr
        rw [if_pos hr]
        rw [hl5] at hRi ⊢
        rw [sl_eq hRi]
        simp only [seenV]
        have HNI : Hid (((rowsM T).map (mapRw πF) ++ M.map (mapRw (πL (1 - lT)))).length = n + m) := by show _ = _; rw [List.length_append, List.length_map, List.length_map, Hn.out, Hm.out]
        rw [HNI.out]
        have hb5 := hW5.lt
        have hP5 := hP4.step hx hk5
        have hsb := hP5.sb
        rw [hSBd] at hsb
        have hRs5 := hRs4.kept hk5 (fun g hg => by have := HGS.out g hg; simp; omega)
        obtain ⟨AI, HAI⟩ : ∃ AI, Hid (adrO oi = AI) := ⟨_, rfl⟩
        rw [HAI.out]
        obtain ⟨X6, hX6⟩ : ∃ X6, X6 = w5.alloc (.cells #[.slice AI (n + m) (n + m), .int .i64 0, .string ⟨#[]⟩, .int .i64 0, .int .i64 0, .int .i64 0] 52) := ⟨_, rfl⟩
        have k6 : Kept [] w5 X6 := by rw [hX6]; exact (Kept.refl [] _).alloc _
        have b6 : X6.heap[w5.heap.size]? = some (.cells #[.slice AI (n + m) (n + m), .int .i64 0, .string ⟨#[]⟩, .int .i64 0, .int .i64 0, .int .i64 0] 52 (0, 0)) := by rw [hX6]; exact heap_alloc_new _ _
        have sb6 := k6.get hsb (by simp)
        obtain ⟨y0, y1, y2, y3, y4, y5⟩ := seen_cells sb6
        obtain ⟨z0, z1, z2, z3, z4, z5⟩ := seen_cells b6
        obtain ⟨f0, f1, -⟩ := (hW5.still k6).cells
        have hz6 := lt_of_get sb6
        have hz6' := lt_of_get b6
        have hb6 := (hW5.still k6).lt
        have HX6 := (show Hid _ from hX6.symm)
        have HM := (show Hid _ from fun w' => moved_zero ⟨#[]⟩ 0 0 (lT - 1) w')
        clear hX6 d0 d1
        go_upto_region 29 with fail
        rw [HX6.out]
        go_upto_region 34 with (go_at_call 22; refine (HLN.out _).mono ?_; rintro e w9 ⟨rfl, hw9⟩; rw [hw9])
        go_wp2_with fail
        refine Calls.mono (HM.out _) ?_
        rintro e w7 ⟨rfl, k7⟩
        have K67 := k6.trans k7
        have sb7 := k7.get sb6 (by simp)
        have b7 := k7.get b6 (by simp)
        have hRs7 := hRs5.still K67
        have hRi7 := hRi.still K67
        have hW7 := hW5.still K67
        have hV7 := hV5.kept K67 (by simp)
        have hKx7 : Kept [x] w w7 := (hP4.kept.trans hk5).trans (K67.mono (by simp))
        clear y0 y1 y2 y3 y4 y5 z0 z1 z2 z3 z4 z5 f0 f1 hb6 hz6 hz6' sb6 b6 hsb hRs5 hRi hRs4
        obtain ⟨y0, -, -, -, -, y5⟩ := seen_cells sb7
        obtain ⟨z0, -, -, -, -, z5⟩ := seen_cells b7
        have hz7 := lt_of_get sb7
        have hz7' := lt_of_get b7
        go_wp2_with fail
        go_loopg [17, 18] (n + m) (fun g iv _ wr => ∃ k : Nat, k ≤ n + m ∧ g = n + m - k ∧ iv = .int .i64 k ∧ Kept [] w7 wr)
        case atStart => exact ⟨0, by omega, by omega, rfl, Kept.refl _ _⟩
        case round =>
          obtain ⟨k, hk9, hg9, rfl, hK9⟩ := hrel
          have sb9 := hK9.get sb7 (by simp)
          have b9 := hK9.get b7 (by simp)
          clear y0 y5 z0 z5
          obtain ⟨y0, -, -, -, -, -⟩ := seen_cells sb9
          obtain ⟨z0, -, -, -, -, -⟩ := seen_cells b9
          have hz9 := lt_of_get sb9
          have hz9' := lt_of_get b9
          by_cases hlt : k < n + m
          · have hkl : k < (rowsM T ++ M).length := by rw [HNM.out]; exact hlt
            have hki : k < ((rowsM T).map (mapRw πF) ++ M.map (mapRw (πL (1 - lT)))).length := by rw [HNI.out]; exact hlt
            cases os with
            | none => have he : rowsM T ++ M = [] := hRs7
                      rw [he] at hkl; simp at hkl
            | some gs =>
              cases oi with
              | none => have he : (rowsM T).map (mapRw πF) ++ M.map (mapRw (πL (1 - lT))) = [] := hRi7
                        rw [he] at hki; simp at hki
              | some gi =>
                have eAS : AS = some ⟨gs, 0, none⟩ := HAS.out.symm
                have eAI : AI = some ⟨gi, 0, none⟩ := HAI.out.symm
                subst eAS eAI
                obtain ⟨a0, a1, a2, a3, a4, a5⟩ := rw_at (hK9.get hRs7.2 (by simp)) (fun j v hj => by simpa using hj) k hkl
                obtain ⟨b0, b1, b2, b3, b4, b5⟩ := rw_at (hK9.get hRi7.2 (by simp)) (fun j v hj => by simpa using hj) k hki
                have hgs9 := lt_of_get (hK9.get hRs7.2 (by simp))
                have hgi9 := lt_of_get (hK9.get hRi7.2 (by simp))
                have hqf := hfile.out _ (List.getElem_mem hkl)
                have hql := HOK.out.line _ (List.getElem_mem hkl)
                rw [row_rel (rowsM T) M (1 - lT) k hkl hki] at b0 b1 b2 b3 b4 b5
                rw [Hn.out] at b0 b1 b2 b3 b4 b5
                generalize (rowsM T ++ M)[k] = q at *
                obtain ⟨la, ve, wy, ⟨fi, li, co⟩⟩ := q
                simp only [LnOk] at hql hqf a0 a1 a2 a3 a4 a5
                have hkI : (k : Int) < ((n + m : Nat) : Int) := by omega
                by_cases hkn : k < n
                · have hkn1 : (k : Int) < (n : Int) := by omega
                  rw [if_pos hkn] at b0 b1 b2 b3 b4 b5
                  rcases hqf with rfl | rfl
                  · simp only [mapRw, πF_none] at b0 b1 b2 b3 b4 b5
                    go_upto_region 48 with fail
                    go_region
                    all_goals
                      go_wp2
                      go_roundg (n + m - (k + 1))
                      case measure => omega
                      case rel => exact ⟨k + 1, by omega, rfl, by go_num, by first | exact (hK9.alloc _).drew | exact hK9.alloc _⟩
                  · simp only [mapRw, πF_m] at b0 b1 b2 b3 b4 b5
                    go_upto_region 48 with fail
                    go_region
                    all_goals
                      go_wp2
                      go_roundg (n + m - (k + 1))
                      case measure => omega
                      case rel => exact ⟨k + 1, by omega, rfl, by go_num, by first | exact (hK9.alloc _).drew | exact hK9.alloc _⟩
                · have hkn1 : ¬ (k : Int) < (n : Int) := by omega
                  have hkn2 : (k : Int) ≥ (n : Int) := by omega
                  rw [if_neg hkn] at b0 b1 b2 b3 b4 b5
                  rcases hqf with rfl | rfl
                  · simp only [mapRw, πL_none] at b0 b1 b2 b3 b4 b5
                    go_upto_region 48 with fail
                    go_region
                    all_goals
                      go_wp2
                      go_roundg (n + m - (k + 1))
                      case measure => omega
                      case rel => exact ⟨k + 1, by omega, rfl, by go_num, by first | exact (hK9.alloc _).drew | exact hK9.alloc _⟩
                  · simp only [mapRw, πL_m] at b0 b1 b2 b3 b4 b5
                    have hli : li + (1 - lT) + (lT - 1) = li := by omega
                    have hwl : IntKind.i64.wrap (li + (1 - lT) + (lT - 1)) = li := by rw [IntKind.wrap_i64]; omega
                    go_upto_region 48 with fail
                    go_region
                    all_goals
                      go_wp2
                      go_roundg (n + m - (k + 1))
                      case measure => omega
                      case rel => exact ⟨k + 1, by omega, rfl, by go_num, by first | exact (hK9.alloc _).drew | exact hK9.alloc _⟩
          · go_wp2_with fail
            refine (back_any (N := 1) (by omega) b x T o _ _ (hW7.still hK9) (hV7.kept hK9 (by simp)) hx (mok_two _ T hI hTs) hT).mono ?_
            rintro e w8 ⟨rfl, -, -, hk8⟩
            go_wp2
            go_ret
            exact ⟨rfl, (hKx7.trans (hK9.mono (by simp))).trans hk8⟩

end Go.Proofs.YtcipkfhpcbddiaaGreat

/- Package metaproofkeep: first. -/
namespace Go.Proofs.YtcipkfhpcbddiaaGreat
open Go.RowKit

/-- Verify of a file without inclusions. -/
theorem verify_gen (x k : Nat) (fs : List (ByteArray × ByteArray)) (nm t : ByteArray) (w : World) (h : SomeAt w x fs) (hf : findF fs nm = k) (hk : k < fs.length) (hk4 : k < 4) (hnm : fileNm fs k = nm) (hdt : fileDt fs k = t) (hsz : FilesOk fs) (hni : holdsF t = false) :
    Calls Tryz.prog 15 #[.pointer (some ⟨x, 0, none⟩), .string nm] w fun e w' =>
      (if ((readF nm t 0 emptyDb).1.1 == 0) = true then e = .returned (.tuple #[.agg #[.int .i64 0, .string ⟨#[]⟩, .int .i64 0, .int .i64 0], .int .i64 0]) ∧ ∃ H g, RptAt w' x fs (readF nm t 0 emptyDb).2.sts H g ∧ w.heap.size ≤ g ∧ ∀ k, InH H k → w.heap.size ≤ k
       else e = .returned (.tuple #[.agg #[.int .i64 (readF nm t 0 emptyDb).1.1, .string nm, .int .i64 (lineAt t (readF nm t 0 emptyDb).1.2), .int .i64 (colAt t (readF nm t 0 emptyDb).1.2)], .int .i64 6]) ∧ BareAt w' x fs) ∧ Kept [x] w w' := by
  have hs : (fileDt fs k).size ≤ 1024 := hsz k hk
  have hp := readAll_plain fs k hk4 hs (by rw [hdt]; exact noInc_of t hni)
  rw [hnm, hdt] at hp
  refine (verify_any x k fs nm w h hf hk hsz).mono ?_
  rintro e w' ⟨hc, hK⟩
  refine ⟨?_, hK⟩
  rw [hp] at hc
  unfold fltOf at hc
  cases hr : ((readF nm t 0 emptyDb).1.1 == 0) with
  | true =>
    simp only [hr, if_true] at hc ⊢
    rw [if_pos (by rfl)] at hc
    exact hc
  | false =>
    simp only [hr, Bool.false_eq_true, if_false] at hc ⊢
    exact hc

theorem fresh_kept {w w' : World} (h : Kept [w.heap.size] w w') : Kept [] w w' :=
  ⟨h.os, h.tape, h.output, h.size, fun k hk _ => h.block k hk (by simp; omega)⟩
def fsOne : List (ByteArray × ByteArray) := [(⟨#[109]⟩, ⟨#[36, 99, 32, 119, 32, 36, 46, 32, 36, 118, 32, 112, 32, 36, 46, 32, 119, 112, 32, 36, 102, 32, 119, 32, 112, 32, 36, 46, 10, 97, 32, 36, 97, 32, 119, 32, 112, 32, 36, 46]⟩)]
def fsTwo : List (ByteArray × ByteArray) := [(⟨#[109]⟩, ⟨#[36, 99, 32, 119, 32, 36, 46, 32, 36, 118, 32, 112, 32, 36, 46, 32, 119, 112, 32, 36, 102, 32, 119, 32, 112, 32, 36, 46, 10, 97, 32, 36, 97, 32, 119, 32, 112, 32, 36, 46]⟩), (⟨#[110]⟩, ⟨#[36, 99, 32, 119, 32, 36, 46, 10, 32, 36, 99, 32, 119, 32, 36, 46]⟩)]
theorem firstPut1 : putF [] ⟨#[109]⟩ ⟨#[36, 99, 32, 119, 32, 36, 46, 32, 36, 118, 32, 112, 32, 36, 46, 32, 119, 112, 32, 36, 102, 32, 119, 32, 112, 32, 36, 46, 10, 97, 32, 36, 97, 32, 119, 32, 112, 32, 36, 46]⟩ = (0, fsOne) := by decide +kernel
theorem firstPut2 : putF fsOne ⟨#[110]⟩ ⟨#[36, 99, 32, 119, 32, 36, 46, 10, 32, 36, 99, 32, 119, 32, 36, 46]⟩ = (0, fsTwo) := by decide +kernel
theorem firstReadM : (readF ⟨#[109]⟩ ⟨#[36, 99, 32, 119, 32, 36, 46, 32, 36, 118, 32, 112, 32, 36, 46, 32, 119, 112, 32, 36, 102, 32, 119, 32, 112, 32, 36, 46, 10, 97, 32, 36, 97, 32, 119, 32, 112, 32, 36, 46]⟩ 0 emptyDb).1 = (0, 0) := by decide +kernel
theorem firstReadN : (readF ⟨#[110]⟩ ⟨#[36, 99, 32, 119, 32, 36, 46, 10, 32, 36, 99, 32, 119, 32, 36, 46]⟩ 0 emptyDb).1 = (13, 12) := by decide +kernel
theorem firstLine : lineAt ⟨#[36, 99, 32, 119, 32, 36, 46, 10, 32, 36, 99, 32, 119, 32, 36, 46]⟩ 12 = 2 ∧ colAt ⟨#[36, 99, 32, 119, 32, 36, 46, 10, 32, 36, 99, 32, 119, 32, 36, 46]⟩ 12 = 5 := by decide +kernel
theorem fsTwo_ok : FilesOk fsTwo := by
  rw [filesOk_all]
  intro f hf
  simp only [fsTwo, List.mem_cons, List.not_mem_nil, or_false] at hf
  rcases hf with rfl | rfl <;> decide

set_option maxHeartbeats 1000000 in
set_option maxRecDepth 100000 in
theorem firstly_any (w : World) : Calls Tryz.prog 7 #[] w fun e w' => e = .returned (.bool true) ∧ Kept [] w w' := by
  have VM : ∀ (w' : World) (x : Nat), SomeAt w' x fsTwo → Calls Tryz.prog 15 #[.pointer (some ⟨x, 0, none⟩), .string ⟨#[109]⟩] w' fun e w'' => e = .returned (.tuple #[.agg #[.int .i64 0, .string ⟨#[]⟩, .int .i64 0, .int .i64 0], .int .i64 0]) ∧ SomeAt w'' x fsTwo ∧ Kept [x] w' w'' := by
    intro w' x h
    refine (verify_gen x 0 fsTwo ⟨#[109]⟩ ⟨#[36, 99, 32, 119, 32, 36, 46, 32, 36, 118, 32, 112, 32, 36, 46, 32, 119, 112, 32, 36, 102, 32, 119, 32, 112, 32, 36, 46, 10, 97, 32, 36, 97, 32, 119, 32, 112, 32, 36, 46]⟩ w' h (by decide +kernel) (by decide) (by decide) rfl rfl fsTwo_ok (by decide +kernel)).mono ?_
    rintro e w'' ⟨hc, hK⟩
    rw [firstReadM, if_pos (by rfl)] at hc
    obtain ⟨h1, H, g, h2, -⟩ := hc
    exact ⟨h1, h2.anyR, hK⟩
  have VN : ∀ (w' : World) (x : Nat), SomeAt w' x fsTwo → Calls Tryz.prog 15 #[.pointer (some ⟨x, 0, none⟩), .string ⟨#[110]⟩] w' fun e w'' => e = .returned (.tuple #[.agg #[.int .i64 13, .string ⟨#[110]⟩, .int .i64 2, .int .i64 5], .int .i64 6]) ∧ Kept [x] w' w'' := by
    intro w' x h
    refine (verify_gen x 1 fsTwo ⟨#[110]⟩ ⟨#[36, 99, 32, 119, 32, 36, 46, 10, 32, 36, 99, 32, 119, 32, 36, 46]⟩ w' h (by decide +kernel) (by decide) (by decide) rfl rfl fsTwo_ok (by decide +kernel)).mono ?_
    rintro e w'' ⟨hc, hK⟩
    rw [firstReadN, if_neg (by decide)] at hc
    simp only [firstLine.1, firstLine.2] at hc
    exact ⟨hc.1, hK⟩
  have HVM := (show Hid _ from VM)
  have HVN := (show Hid _ from VN)
  clear VM VN
  have hpe := fun (wx : World) => placeEql ⟨#[110]⟩ 2 5 wx
  go_enter Tryz.func7, Tryz.ntmps7
  go_wp2_with fail
  refine (new_any _).mono ?_
  rintro e w1 ⟨rfl, hV1, hk1⟩
  go_wp2_with fail
  refine (vput_any w.heap.size ⟨#[109]⟩ ⟨#[36, 99, 32, 119, 32, 36, 46, 32, 36, 118, 32, 112, 32, 36, 46, 32, 119, 112, 32, 36, 102, 32, 119, 32, 112, 32, 36, 46, 10, 97, 32, 36, 97, 32, 119, 32, 112, 32, 36, 46]⟩ [] _ hV1.anyR (by decide) (by decide)).mono ?_
  rintro e w2 ⟨rfl, hV2, -, hk2⟩
  rw [firstPut1] at hV2 ⊢
  go_wp2_with fail
  refine (vput_any w.heap.size ⟨#[110]⟩ ⟨#[36, 99, 32, 119, 32, 36, 46, 10, 32, 36, 99, 32, 119, 32, 36, 46]⟩ _ _ hV2 (by decide) (by decide)).mono ?_
  rintro e w3 ⟨rfl, hV3, -, hk3⟩
  rw [firstPut2] at hV3 ⊢
  go_wp2_with fail
  refine Calls.mono (HVM.out _ _ hV3) ?_
  rintro e w4 ⟨rfl, hV4, hk4⟩
  have hx4 := hV4.lt
  have hkk : Kept [w.heap.size] w w4 := (((hk1.mono (by simp)).trans hk2).trans hk3).trans hk4
  go_wp2_with fail
  refine Calls.mono (HVN.out _ _ (hV4.kept ((Kept.refl [] _).alloc _) (by simp))) ?_
  rintro e w5 ⟨rfl, hk5⟩
  have hF5 : w5.heap[w4.heap.size]? = some (.cells #[.int .i64 0, .string ⟨#[]⟩, .int .i64 0, .int .i64 0] 41 (0, 0)) := hk5.get (heap_alloc_new _ _) (by simp; omega)
  obtain ⟨z0, z1, z2, z3⟩ := zero_cells hF5
  have hF5w := lt_of_get hF5
  have hk6 := (hkk.alloc (.cells #[.int .i64 0, .string ⟨#[]⟩, .int .i64 0, .int .i64 0] 41)).trans hk5
  go_wp2
  go_ret
  exact ⟨rfl, fresh_kept ((hk6.alloc _).alloc _)⟩

end Go.Proofs.YtcipkfhpcbddiaaGreat

/- The statement on Parted. -/
namespace Go.Proofs.YtcipkfhpcbddiaaGreat
open Go.RowKit

set_option maxHeartbeats 1000000 in
set_option maxRecDepth 100000 in
theorem parted_long (b x : Nat) (T c U : ByteArray) (o : Option Nat) (fs : List (ByteArray × ByteArray)) (w : World) (hW : WorldAt w b x T o) (hV : SomeAt w x fs) (hx : x ≠ b) (hM : MOk 0 fs) (hT : Fine T) (hc : c.size ≤ 1073741824) (hh : holdsF c = false) (HUU : Hid (T ++ ⟨#[10]⟩ ++ c = U)) (hl : 1024 < U.size) :
    Calls Tryz.prog 9 #[.pointer (some ⟨b, 0, none⟩), .string c] w fun e w' => e = .returned (.bool true) ∧ Kept [x] w w' := by
  have hTs := hT.size
  have hbw := hW.lt
  obtain ⟨c0, c1, -⟩ := hW.cells
  have hUs : U.size = T.size + 1 + c.size := by rw [← HUU.out]; simp only [ByteArray.size_append]; rfl
  have HSU := (show Hid _ from see_long b x T U o fs w hW hV hx hl (by omega))
  go_enter Tryz.func9, Tryz.ntmps9
  go_wp2_with (go_at_call 17; refine (kholds_any _ _ (by omega)).mono ?_; rintro e w9 ⟨rfl, hw9⟩; rw [hw9, hh])
  rw [HUU.out]
  refine Calls.mono HSU.out ?_
  rintro e w2 ⟨rfl, hW2, hV2, hk2⟩
  simp only [seenV]
  have hb2 := hW2.lt
  clear c0 c1
  obtain ⟨c0, c1, c2⟩ := hW2.cells
  rw [sl_eq hW2.rows] at c2
  have hnl := hT.rws.len
  obtain ⟨AO, HAO⟩ : ∃ AO, Hid (adrO o = AO) := ⟨_, rfl⟩
  rw [HAO.out] at c2
  go_wp2_with fail
  refine (back_any (N := 0) (by omega) b x T o fs _ (hW2.still ((Kept.refl [] _).alloc _)) (hV2.kept ((Kept.refl [] _).alloc _) (by simp)) hx hM hT).mono ?_
  rintro e w3 ⟨rfl, -, -, hk3⟩
  go_wp2
  go_ret
  exact ⟨rfl, (hk2.alloc _).trans hk3⟩

set_option maxHeartbeats 1000000 in
set_option maxRecDepth 100000 in
theorem parted_inc (b : Nat) (c : ByteArray) (w : World) (hc : c.size ≤ 1073741824) (hh : holdsF c = true) :
    Calls Tryz.prog 9 #[.pointer (some ⟨b, 0, none⟩), .string c] w fun e w' => e = .returned (.bool true) ∧ w' = w := by
  go_enter Tryz.func9, Tryz.ntmps9
  go_wp2_with (go_at_call 17; refine (kholds_any _ _ (by omega)).mono ?_; rintro e w9 ⟨rfl, hw9⟩; rw [hw9, hh])
  go_ret
  exact ⟨rfl, rfl⟩

theorem rdM_pos (U : ByteArray) (h : ((rdM U).1.1 == 0) = false) : (rdM U).1.2 ≤ U.size := by
  unfold rdM at h ⊢
  exact (readF_pos ⟨#[109]⟩ U 0 emptyDb (Nat.zero_le _) (by simpa using h)).2
theorem parted_any (b x : Nat) (T c : ByteArray) (o : Option Nat) (fs : List (ByteArray × ByteArray)) (w : World) (hW : WorldAt w b x T o) (hV : SomeAt w x fs) (hx : x ≠ b) (hM : MOk 0 fs) (hT : Fine T) (hc : c.size ≤ 1073741824) :
    Calls Tryz.prog 9 #[.pointer (some ⟨b, 0, none⟩), .string c] w fun e w' => e = .returned (.bool true) ∧ Kept [x] w w' := by
  cases hh : holdsF c with
  | true => exact (parted_inc b c w hc hh).mono (fun e w' h => ⟨h.1, by rw [h.2]; exact Kept.refl _ _⟩)
  | false =>
    have hUi : holdsF (T ++ ⟨#[10]⟩ ++ c) = false := holds_more T c hT.inc hh
    obtain ⟨U, eU⟩ : ∃ U, T ++ ⟨#[10]⟩ ++ c = U := ⟨_, rfl⟩
    obtain ⟨K, eK⟩ : ∃ K, T ++ litC ++ c = K := ⟨_, rfl⟩
    obtain ⟨I, eI⟩ : ∃ I, litI ++ c = I := ⟨_, rfl⟩
    rw [eU] at hUi
    by_cases hl : 1024 < U.size
    · exact parted_long b x T c U o fs w hW hV hx hM hT hc hh eU hl
    · obtain ⟨M, h1, hS⟩ := sees b x T c U K I o hx hT hh eU eK eI hl
      have hok : RwsOk (rowsM T ++ M) := by rw [← h1]; exact (rdM_rec _ (by omega) hUi).rows
      have hfile : ∀ q ∈ rowsM T ++ M, q.at_.file = ⟨#[]⟩ ∨ q.at_.file = ⟨#[109]⟩ := by rw [← h1]; exact rowsM_file _
      have hln : ((rdM U).1.1 == 0) = false → 1 ≤ lineAt U (rdM U).1.2 ∧ lineAt U (rdM U).1.2 ≤ 1100 := fun h => by
        have h2 := line_le U (rdM U).1.2
        have h3 := rdM_pos U h
        omega
      clear h1 hUi
      unfold litC at eK
      unfold litI at eI
      generalize (rdM U).1.1 = r at *
      generalize lineAt U (rdM U).1.2 = ln at *
      generalize colAt U (rdM U).1.2 = cl at *
      cases hr : (r == 0) with
      | false => exact parted_bad b x T c U K I o fs w hW hV hx hM hT hc hh eU eK eI r ln cl M hS hl hr (hln hr)
      | true =>
        by_cases hk : 1024 < K.size
        · exact parted_goodL b x T c U K I o fs w hW hV hx hM hT hc hh eU eK eI r ln cl M hS hl hr hok hk hfile
        · exact parted_goodK b x T c U K I o fs w hW hV hx hM hT hc hh eU eK eI r ln cl M hS hl hr hok hk hfile

set_option maxHeartbeats 1000000 in
set_option maxRecDepth 100000 in
theorem parted_all : PartedWalk := by
  intro ao cap l c w hl hls hcs hc
  have HSM := (show Hid _ from smallish ao cap l w hl hls hc)
  go_enter Tryz.func3, Tryz.ntmps3
  go_wp2_with fail
  refine Calls.mono HSM.out ?_
  rintro e w1 ⟨⟨r, rfl, hr⟩, hw1⟩
  subst hw1
  cases r
  · go_wp2
    go_ret
    exact ⟨rfl, Below.refl _ _⟩
  · obtain ⟨hl1, hl2⟩ := hr rfl
    by_cases ha : 1073741824 < c.size
    · go_wp2
      go_ret
      exact ⟨rfl, Below.refl _ _⟩
    · go_wp2_with fail
      refine (firstly_any _).mono ?_
      rintro e w0 ⟨rfl, hk0⟩
      have hc0 : l.length = 0 ∨ ∃ b off, ao = some ⟨b, off, none⟩ ∧ ChunksAt w0 b off l := by
        rcases hc with h0 | ⟨b, off, he, hcc⟩
        · exact Or.inl h0
        · exact Or.inr ⟨b, off, he, hcc.kept hk0 (by simp)⟩
      go_wp2_with fail
      refine (grown_any ao cap l _ hl1 hl2 hc0).mono ?_
      rintro e w2 ⟨b, x, rfl, ⟨la, lb, lc, ⟨T, o, hW, hT⟩, ⟨fs, hV, hM⟩⟩, hk2⟩
      have hz0 := hk0.size
      go_wp2_with fail
      refine (parted_any b x T c o fs _ hW hV lc hM hT (by omega)).mono ?_
      rintro e w4 ⟨rfl, hk4⟩
      go_wp2
      go_ret
      refine ⟨rfl, ?_⟩
      have hk : Kept [x] w1 w4 := ((hk0.trans hk2).mono (by simp)).trans hk4
      exact ⟨hk.os, hk.tape, hk.output, hk.size, fun k hk' => hk.block k hk' (by simp; omega)⟩

theorem parted_holds : Rows.PartedSaid := partedOver parted_all

end Go.Proofs.YtcipkfhpcbddiaaGreat
