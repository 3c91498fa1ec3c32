import Derived.Test.YtcipkfhpcbddiaaGreatG16
import Derived.Test.YtcipkfhpcbddiaaGreatQSeeR
/- Package metaproofkeep: back, chunk, grown: with the report that they leave. -/
namespace Go.Proofs.YtcipkfhpcbddiaaGreat
open Go.RowKit
attribute [local go_sem] build_world

/-- The verifier has the report on this text; all of it lies from block n on. -/
def RepFor (w : World) (x n N : Nat) (t : ByteArray) : Prop := ∃ fs H g, RptAt w x fs (rdM t).2.sts H g ∧ n ≤ g ∧ (∀ k, InH H k → n ≤ k) ∧ MOk N fs
theorem RepFor.still {w w' : World} {x n N : Nat} {t : ByteArray} (h : RepFor w x n N t) (k : Kept [] w w') : RepFor w' x n N t := by
  obtain ⟨fs, H, g, h1, h2, h3, h4⟩ := h
  exact ⟨fs, H, g, h1.still k, h2, h3, h4⟩
theorem RepFor.keptB {w w' : World} {x n N b : Nat} {t : ByteArray} (h : RepFor w x n N t) (k : Kept [b] w w') (hx : x ≠ b) (hb : b < n) : RepFor w' x n N t := by
  obtain ⟨fs, H, g, h1, h2, h3, h4⟩ := h
  exact ⟨fs, H, g, h1.kept k (by simpa using hx) (by simp; omega) (fun k hk => by have := h3 k hk; simp; omega), h2, h3, h4⟩
theorem RepFor.down {w : World} {x n m N : Nat} {t : ByteArray} (h : RepFor w x n N t) (hm : m ≤ n) : RepFor w x m N t := by
  obtain ⟨fs, H, g, h1, h2, h3, h4⟩ := h
  exact ⟨fs, H, g, h1, by omega, fun k hk => by have := h3 k hk; omega, h4⟩

theorem see_shortR {N : Nat} (hN : N ≤ 3) (b x : Nat) (T t : ByteArray) (o : Option Nat) (fs : List (ByteArray × ByteArray)) (w : World) (hW : WorldAt w b x T o) (hV : SomeAt w x fs) (hx : x ≠ b) (ht : ¬ 1024 < t.size) (hM : MOk N fs) (hni : holdsF t = false) :
    Calls Tryz.prog 18 #[.pointer (some ⟨b, 0, none⟩), .string t] w fun e w' => SeeSays N b x T t o w e w' ∧ (((rdM t).1.1 == 0) = true → RepFor w' x w.heap.size N t) := by
  obtain ⟨k, fs', hp, hk, hk4, hf, hnm, hdt, hM'⟩ := put_m hN fs t hM ht
  have HG := rdM_rec t (by omega) hni
  refine (see_coreR b x T t o fs fs' (rdM t).1.1 (lineAt t (rdM t).1.2) (colAt t (rdM t).1.2) (rdM t).2.sts w hW hV hx ht hp HG.ok.len (fun w' h' => verify_m x k fs' t w' h' hf hk hk4 hnm hdt hM'.2 hni)).mono ?_
  rintro e w' ⟨⟨o', he, hR, hg, hW', hV', hk'⟩, hrep⟩
  refine ⟨⟨o', ?_, hR, hg, hW', ⟨fs', hV', hM'⟩, hk'⟩, fun h => ?_⟩
  · rw [he]; rfl
  · obtain ⟨H, g, h1, h2, h3⟩ := hrep h
    exact ⟨fs', H, g, h1, h2, h3, hM'⟩

set_option maxHeartbeats 1000000 in
set_option maxRecDepth 100000 in
theorem back_anyR {N : Nat} (hN : N ≤ 3) (b x : Nat) (T : ByteArray) (o : Option Nat) (fs : List (ByteArray × ByteArray)) (w : World) (hW : WorldAt w b x T o) (hV : SomeAt w x fs) (hx : x ≠ b) (hM : MOk N fs) (hT : Fine T) :
    Calls Tryz.prog 21 #[.pointer (some ⟨b, 0, none⟩)] w fun e w' => BackSays N b x T o w e w' ∧ RepFor w' x w.heap.size N T := by
  obtain ⟨c0, c1, -⟩ := hW.cells
  have hbw := hW.lt
  have SF := see_shortR hN b x T T o fs w hW hV hx (by have := hT.size; omega) hM hT.inc
  unfold SeeSays at SF
  have HSF := (show Hid _ from SF)
  have hrr := hT.zero
  have hok := hT.rws
  clear SF
  go_enter Tryz.func21, Tryz.ntmps21
  go_wp2_with fail
  refine Calls.mono HSF.out ?_
  rintro e w2 ⟨⟨o', rfl, hR2, hg2, hW2, ⟨fs', hV2, hM2⟩, hk2⟩, hRep⟩
  have HRep : Hid (RepFor w2 x w.heap.size N T) := hRep hrr
  clear hRep
  have hR2 := hR2 hrr
  unfold seeV
  rw [if_pos hrr]
  have SR := fun (w' : World) (k : Kept [] w2 w') => sameRows_any o' o (rowsM T) w' (hR2.still k) (hW2.rows.still k) hok
  have hb2 := hW2.lt
  obtain ⟨d0, d1, d2⟩ := hW2.cells
  obtain ⟨ao1, n1, c1', hrs1⟩ := rowsSl_is o' (rowsM T).length
  obtain ⟨ao2, n2, c2', hrs2⟩ := rowsSl_is o (rowsM T).length
  rw [hrs1, hrs2] at SR
  rw [hrs2] at d2
  rw [hrs1]
  have HSR := (show Hid _ from SR)
  clear SR hrs1 hrs2 hok hR2 c0 c1
  simp only [seenV]
  go_upto_region 2 with fail
  obtain ⟨W3, hW3⟩ : ∃ W3, W3 = w2.alloc (.cells #[.slice ao1 n1 c1', .int .i64 0, .string ⟨#[]⟩, .int .i64 0, .int .i64 0, .int .i64 0] 52) := ⟨_, rfl⟩
  have k3 : Kept [] w2 W3 := by rw [hW3]; exact (Kept.refl [] _).alloc _
  have B3 : W3.heap[w2.heap.size]? = some (.cells #[.slice ao1 n1 c1', .int .i64 0, .string ⟨#[]⟩, .int .i64 0, .int .i64 0, .int .i64 0] 52 (0, 0)) := by rw [hW3]; exact heap_alloc_new _ _
  rw [← hW3]
  have s0 := (seen_cells B3).1
  have e2 : W3.cell? ⟨b, 2, none⟩ = some (.slice ao2 n2 c2') := by
    have := (hW2.still k3).cells.2.2
    rw [World.cell?_of_block (k3.block b hb2 (by simp))]; exact d2
  have hb3 : b < W3.heap.size := Nat.lt_of_lt_of_le hb2 k3.size
  clear hW3 d0 d1 d2
  go_region_with (go_at_call 20; refine (HSR.out _ (by exact k3.trans (Kept.refl [] W3).drew)).mono ?_; rintro e w4 ⟨rfl, k4⟩)
  all_goals
    have K4 : Kept [] w2 w4 := (k3.trans (Kept.refl [] W3).drew).trans k4
    have B4 := k4.get ((Kept.refl [] W3).drew.get B3 (by simp)) (by simp)
    obtain ⟨-, -, -, -, -, s5⟩ := seen_cells B4
    have HW4 := (show Hid _ from hW2.still K4)
    have hz4 := lt_of_get B4
    clear s0 e2 B3
    go_wp2
    go_ret
    exact ⟨⟨rfl, HW4.out, ⟨fs', hV2.kept K4 (by simp), hM2⟩, hk2.trans (K4.mono (by simp))⟩, RepFor.still HRep.out K4⟩

/-- What chunk leaves, with the report. -/
def ChunkSaysR (N b x : Nat) (w : World) (e : Ending) (w' : World) : Prop :=
  e = .returned (.bool true) ∧ (∃ T' o', WorldAt w' b x T' o' ∧ Fine T' ∧ (rowsM T' = [] ∨ RepFor w' x (b + 1) N T')) ∧ (∃ fs', SomeAt w' x fs' ∧ MOk N fs') ∧ Kept [b, x] w w'

set_option maxHeartbeats 3000000 in
set_option maxRecDepth 100000 in
theorem chunk_anyR {N : Nat} (hN : N ≤ 3) (b x : Nat) (T c : ByteArray) (o : Option Nat) (fs : List (ByteArray × ByteArray)) (w : World) (hW : WorldAt w b x T o) (hV : SomeAt w x fs) (hx : x ≠ b) (hM : MOk N fs) (hT : Fine T) (hc : c.size ≤ 1073741824) (hRp : Hid (rowsM T = [] ∨ RepFor w x (b + 1) N T)) :
    Calls Tryz.prog 16 #[.pointer (some ⟨b, 0, none⟩), .string c] w fun e w' => ChunkSaysR N b x w e w' := by
  have hTs := hT.size
  have hbw := hW.lt
  have hxw := hV.lt
  obtain ⟨c0, c1, -⟩ := hW.cells
  cases hh : holdsF c
  · have hsz : (T ++ ⟨#[10]⟩ ++ c).size = T.size + 1 + c.size := by simp only [ByteArray.size_append]; rfl
    have HU : Hid (∀ U, U = T ++ ⟨#[10]⟩ ++ c → U.size = T.size + 1 + c.size ∧ holdsF U = false ∧ ((rdM U).1.1 ≠ 0 → lineAt T T.size + 1 ≤ lineAt U (rdM U).1.2) ∧ ∃ m, rowsM U = rowsM T ++ m) := by
      intro U hUU; subst hUU; exact ⟨hsz, holds_more T c hT.inc hh, more_line T c hT, rows_more T c hT⟩
    clear hsz
    go_enter Tryz.func16, Tryz.ntmps16
    go_wp2_with (go_at_call 17; refine (kholds_any _ _ (by omega)).mono ?_; rintro e w9 ⟨rfl, hw9⟩; rw [hw9])
    obtain ⟨U, hUU⟩ : ∃ U, U = T ++ ⟨#[10]⟩ ++ c := ⟨_, rfl⟩
    rw [← hUU]
    obtain ⟨u1, u3, u4, m, u5⟩ := HU.out U hUU
    clear hUU HU
    by_cases hl : 1024 < U.size
    · refine (see_long b x T U o fs _ hW hV hx hl (by omega)).mono ?_
      rintro e w2 ⟨rfl, hW2, hV2, hk2⟩
      simp only [seenV]
      have hb2 := hW2.lt
      go_wp2_with fail
      refine (back_anyR hN b x T o fs _ (hW2.still ((Kept.refl [] _).alloc _)) (hV2.kept ((Kept.refl [] _).alloc _) (by simp)) hx hM hT).mono ?_
      rintro e w3 ⟨⟨rfl, hW3, ⟨fs3, hV3, hM3⟩, hk3⟩, hRep3⟩
      go_wp2
      go_ret
      exact ⟨rfl, ⟨T, o, hW3, hT, Or.inr (hRep3.down (by simp; omega))⟩, ⟨fs3, hV3, hM3⟩, ((hk2.mono (by simp)).alloc _).trans (hk3.mono (by simp))⟩
    · refine (see_shortR hN b x T U o fs _ hW hV hx hl hM u3).mono ?_
      rintro e w2 ⟨⟨o', rfl, hR2, hg2, hW2, ⟨fs2, hV2, hM2⟩, hk2⟩, hRep⟩
      have HRep := (show Hid _ from hRep)
      clear hRep
      unfold seeV
      have hb2 := hW2.lt
      have FU : Hid (((rdM U).1.1 == 0) = true → Fine U) := fun h => ⟨by omega, by simpa using h, u3⟩
      obtain ⟨r, HR⟩ : ∃ r, Hid ((rdM U).1.1 = r) := ⟨_, rfl⟩
      obtain ⟨p, HP⟩ : ∃ p, Hid ((rdM U).1.2 = p) := ⟨_, rfl⟩
      rw [HR.out] at hR2 u4 FU HRep ⊢
      rw [HP.out] at u4 ⊢
      cases hr : (r == 0)
      · simp only [Bool.false_eq_true, if_false, seenV]
        have hl1 := line_le T T.size
        have hl2 := u4 (by simpa using hr)
        have hl3 := line_le U p
        clear u4 hR2 FU c0 c1
        obtain ⟨c0, c1, -⟩ := hW2.cells
        go_wp2_with (go_at_call 22; refine (lines_any _ _ (by omega)).mono ?_; rintro e w9 ⟨rfl, hw9⟩; subst hw9)
        refine (back_anyR hN b x T o fs2 _ (hW2.still ((Kept.refl [] _).alloc _)) (hV2.kept ((Kept.refl [] _).alloc _) (by simp)) hx hM2 hT).mono ?_
        rintro e w3 ⟨⟨rfl, hW3, ⟨fs3, hV3, hM3⟩, hk3⟩, hRep3⟩
        go_wp2
        go_ret
        exact ⟨rfl, ⟨T, o, hW3, hT, Or.inr (hRep3.down (by simp; omega))⟩, ⟨fs3, hV3, hM3⟩, ((hk2.mono (by simp)).alloc _).trans (hk3.mono (by simp))⟩
      · simp only [if_true]
        have hR2 := hR2 hr
        have HF2 := (show Hid _ from FU.out hr)
        have BG := fun (w' : World) (k : Kept [] w2 w') => begins_any o o' (rowsM T) m w' (hW2.rows.still k) (by rw [← u5]; exact hR2.still k) (by rw [← u5]; exact HF2.out.rws)
        rw [← u5] at BG
        obtain ⟨d0, d1, d2⟩ := hW2.cells
        obtain ⟨ao1, n1, c1', hrs1⟩ := rowsSl_is o' (rowsM U).length
        obtain ⟨ao2, n2, c2', hrs2⟩ := rowsSl_is o (rowsM T).length
        rw [hrs1, hrs2] at BG
        rw [hrs2] at d2
        rw [hrs1]
        have HBG := (show Hid _ from BG)
        have HRS1 := (show Hid _ from hrs1)
        have HR2 : Hid (RowsAt w2 o' (rowsM U)) := hR2
        clear BG hrs1 hrs2 u5 hR2 u4 FU c0 c1 u3 hl
        simp only [seenV]
        go_upto_region 9 with fail
        obtain ⟨W3, hW3⟩ : ∃ W3, W3 = w2.alloc (.cells #[.slice ao1 n1 c1', .int .i64 0, .string ⟨#[]⟩, .int .i64 0, .int .i64 0, .int .i64 0] 52) := ⟨_, rfl⟩
        have k3 : Kept [] w2 W3 := by rw [hW3]; exact (Kept.refl [] _).alloc _
        have B3 : W3.heap[w2.heap.size]? = some (.cells #[.slice ao1 n1 c1', .int .i64 0, .string ⟨#[]⟩, .int .i64 0, .int .i64 0, .int .i64 0] 52 (0, 0)) := by rw [hW3]; exact heap_alloc_new _ _
        rw [← hW3]
        have s0 := (seen_cells B3).1
        have e2 : W3.cell? ⟨b, 2, none⟩ = some (.slice ao2 n2 c2') := by
          rw [World.cell?_of_block (k3.block b hb2 (by simp))]; exact d2
        have hb3 : b < W3.heap.size := Nat.lt_of_lt_of_le hb2 k3.size
        clear hW3 d0 d1 d2
        go_region_with (go_at_call 36; refine (HBG.out _ (by exact k3.trans (Kept.refl [] W3).drew)).mono ?_; rintro e w4 ⟨rfl, k4⟩)
        all_goals
          have K4 : Kept [] w2 w4 := (k3.trans (Kept.refl [] W3).drew).trans k4
          have B4 := k4.get ((Kept.refl [] W3).drew.get B3 (by simp)) (by simp)
          obtain ⟨t0, -, -, -, -, -⟩ := seen_cells B4
          have hW4 := hW2.still K4
          have hz4 := lt_of_get B4
          have hb4 := hW4.lt
          obtain ⟨f0, f1, f2⟩ := hW4.cells
          obtain ⟨ao3, n3, c3', hrs3⟩ := rowsSl_is o (rowsM T).length
          rw [hrs3] at f2
          have hfr := free_of hW4.blk
          have hne : b ≠ w2.heap.size := by omega
          have hne' : w2.heap.size ≠ b := by omega
          have HT4 := (show Hid _ from hW4.text U o' (HR2.out.still K4) (fun g hg => by have := hg2 g hg; omega))
          rw [HRS1.out] at HT4
          have HV4 : Hid (SomeAt w4 x fs2) := hV2.kept K4 (by simp)
          have HRp4 : Hid (RepFor w4 x (b + 1) N U) := ((HRep.out hr).still K4).down (by omega)
          have HKK : Hid (Kept [b, x] w w4) := (hk2.mono (by simp)).trans (K4.mono (by simp))
          clear s0 e2 B3 hW4 hrs3 B4 k4 K4
          go_wp2
          go_ret
          exact ⟨rfl, ⟨U, o', HT4.out, HF2.out, Or.inr (HRp4.out.keptB (two_keptW w4 b _ _) hx (by omega))⟩, ⟨fs2, HV4.out.kept (two_keptW w4 b _ _) (by simpa using hx), hM2⟩, (HKK.out.setCell (Or.inl (by simp)) _).setCell (Or.inl (by simp)) _⟩
  · go_enter Tryz.func16, Tryz.ntmps16
    go_wp2_with (go_at_call 17; refine (kholds_any _ _ (by omega)).mono ?_; rintro e w9 ⟨rfl, rfl⟩)
    go_ret
    exact ⟨rfl, ⟨T, o, hW, hT, hRp.out⟩, ⟨fs, hV, hM⟩, Kept.refl _ _⟩

/-- A world of the law's, and its verifier's report (where there are rows). -/
def LaidR (w0 w : World) (b x : Nat) : Prop := w0.heap.size ≤ b ∧ w0.heap.size ≤ x ∧ x ≠ b ∧ (∃ T o, WorldAt w b x T o ∧ Fine T ∧ (rowsM T = [] ∨ RepFor w x (b + 1) 0 T)) ∧ (∃ fs, SomeAt w x fs ∧ MOk 0 fs)

set_option maxHeartbeats 1000000 in
set_option maxRecDepth 100000 in
theorem grown_anyR (ao : Option Addr) (cap : Nat) (l : List ByteArray) (w : World) (hl : l.length ≤ 1073741824) (hls : ∀ i, i < l.length → (l.getD i ⟨#[]⟩).size ≤ 1073741824)
    (hc : l.length = 0 ∨ ∃ b off, ao = some ⟨b, off, none⟩ ∧ ChunksAt w b off l) :
    Calls Tryz.prog 8 #[.slice ao l.length cap] w fun e w' => ∃ b x, e = .returned (.tuple #[.pointer (some ⟨b, 0, none⟩), .bool true]) ∧ LaidR w w' b x ∧ Kept [] w w' := by
  go_enter Tryz.func8, Tryz.ntmps8
  go_wp2_with fail
  refine (new_any _).mono ?_
  rintro e w1 ⟨rfl, hV1, hk1⟩
  have hx1 := hV1.anyR.lt
  have hW1 : WorldAt (w1.alloc (.cells #[.pointer (some ⟨w.heap.size, 0, none⟩), .string ⟨#[]⟩, .slice none 0 0, .int .i64 0, .slice none 0 0, .slice none 0 0, .slice none 0 0, .slice none 0 0, .slice none 0 0] 49)) w1.heap.size w.heap.size ⟨#[]⟩ none :=
    ⟨heap_alloc_new _ _, rowsM_empty, fun g hg => by cases hg⟩
  have HW1 := (show Hid _ from hW1)
  clear hW1
  have hsz := hk1.size
  go_wp2
  go_loopg [6, 7] l.length (fun g i _ wr => ∃ (k : Nat), k ≤ l.length ∧ g = l.length - k ∧ i = .int .i64 k ∧ LaidR w wr w1.heap.size w.heap.size ∧ Kept [] w wr)
  case atStart => exact ⟨0, by omega, by omega, rfl, ⟨by omega, Nat.le_refl _, by omega, ⟨_, _, HW1.out, fine_empty, Or.inl rowsM_empty⟩, ⟨[], hV1.anyR.kept ((Kept.refl [] _).alloc _) (by simp), Or.inr ⟨rfl, by simp⟩, filesOk_nil⟩⟩, hk1.alloc _⟩
  case round =>
    obtain ⟨k, hk, hg, rfl, ⟨la, lb, lc, ⟨T, o, hW, hT, hRp⟩, ⟨fs, hV, hM⟩⟩, hkp⟩ := hrel
    have HRp := (show Hid _ from hRp)
    clear hRp
    by_cases hlt : k < l.length
    · rcases hc with h0 | ⟨cb, off, rfl, hcc⟩
      · omega
      · have hcb := hcc.1
        have hcr := (hcc.kept hkp (by simp)).2 k hlt
        have e0 : l.getD k ⟨#[]⟩ = l[k] := by rw [List.getD_eq_getElem?_getD, List.getElem?_eq_getElem hlt]; rfl
        have hcs := hls k hlt
        rw [e0] at hcs
        generalize l[k] = c at *
        clear e0
        go_wp2_with fail
        refine (chunk_anyR (N := 0) (by omega) w1.heap.size w.heap.size T c o fs _ hW hV lc hM hT hcs HRp).mono ?_
        rintro e w2 ⟨rfl, hW2, hV2, hk2⟩
        have hkw : Kept [] w w2 := ⟨hk2.os.trans hkp.os, hk2.tape.trans hkp.tape, hk2.output.trans hkp.output, Nat.le_trans hkp.size hk2.size, fun i hi _ => (hk2.block i (Nat.lt_of_lt_of_le hi hkp.size) (by simp; omega)).trans (hkp.block i hi (by simp))⟩
        go_wp2
        go_roundg (l.length - (k + 1))
        case measure => omega
        case rel => exact ⟨k + 1, by omega, rfl, by go_num, ⟨la, lb, lc, hW2, hV2⟩, hkw⟩
    · go_wp2
      go_ret2
      exact ⟨w1.heap.size, w.heap.size, rfl, ⟨la, lb, lc, ⟨T, o, hW, hT, HRp.out⟩, ⟨fs, hV, hM⟩⟩, hkp⟩
end Go.Proofs.YtcipkfhpcbddiaaGreat
