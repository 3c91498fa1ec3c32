import Derived.Test.YtcipkfhpcbddiaaGreatQPartedRow
import Derived.Test.YtcipkfhpcbddiaaGreatQPrt3b
import Derived.Test.YtcipkfhpcbddiaaGreatQFirst
/- The statement on Parted. -/
namespace Go.Proofs.YtcipkfhpcbddiaaGreat
open Go.RowKit

set_option maxHeartbeats 1000000 in
set_option maxRecDepth 100000 in
theorem parted_long (b x : Nat) (T c U : ByteArray) (o : Option Nat) (fs : List (ByteArray × ByteArray)) (w : World) (hW : WorldAt w b x T o) (hV : SomeAt w x fs) (hx : x ≠ b) (hM : MOk 0 fs) (hT : Fine T) (hc : c.size ≤ 1073741824) (hh : holdsF c = false) (HUU : Hid (T ++ ⟨#[10]⟩ ++ c = U)) (hl : 1024 < U.size) :
    Calls Tryz.prog 9 #[.pointer (some ⟨b, 0, none⟩), .string c] w fun e w' => e = .returned (.bool true) ∧ Kept [x] w w' := by
  have hTs := hT.size
  have hbw := hW.lt
  obtain ⟨c0, c1, -⟩ := hW.cells
  have hUs : U.size = T.size + 1 + c.size := by rw [← HUU.out]; simp only [ByteArray.size_append]; rfl
  have HSU := (show Hid _ from see_long b x T U o fs w hW hV hx hl (by omega))
  go_enter Tryz.func9, Tryz.ntmps9
  go_wp2_with (go_at_call 17; refine (kholds_any _ _ (by omega)).mono ?_; rintro e w9 ⟨rfl, hw9⟩; rw [hw9, hh])
  rw [HUU.out]
  refine Calls.mono HSU.out ?_
  rintro e w2 ⟨rfl, hW2, hV2, hk2⟩
  simp only [seenV]
  have hb2 := hW2.lt
  clear c0 c1
  obtain ⟨c0, c1, c2⟩ := hW2.cells
  rw [sl_eq hW2.rows] at c2
  have hnl := hT.rws.len
  obtain ⟨AO, HAO⟩ : ∃ AO, Hid (adrO o = AO) := ⟨_, rfl⟩
  rw [HAO.out] at c2
  go_wp2_with fail
  refine (back_any (N := 0) (by omega) b x T o fs _ (hW2.still ((Kept.refl [] _).alloc _)) (hV2.kept ((Kept.refl [] _).alloc _) (by simp)) hx hM hT).mono ?_
  rintro e w3 ⟨rfl, -, -, hk3⟩
  go_wp2
  go_ret
  exact ⟨rfl, (hk2.alloc _).trans hk3⟩

set_option maxHeartbeats 1000000 in
set_option maxRecDepth 100000 in
theorem parted_inc (b : Nat) (c : ByteArray) (w : World) (hc : c.size ≤ 1073741824) (hh : holdsF c = true) :
    Calls Tryz.prog 9 #[.pointer (some ⟨b, 0, none⟩), .string c] w fun e w' => e = .returned (.bool true) ∧ w' = w := by
  go_enter Tryz.func9, Tryz.ntmps9
  go_wp2_with (go_at_call 17; refine (kholds_any _ _ (by omega)).mono ?_; rintro e w9 ⟨rfl, hw9⟩; rw [hw9, hh])
  go_ret
  exact ⟨rfl, rfl⟩

theorem rdM_pos (U : ByteArray) (h : ((rdM U).1.1 == 0) = false) : (rdM U).1.2 ≤ U.size := by
  unfold rdM at h ⊢
  exact (readF_pos ⟨#[109]⟩ U 0 emptyDb (Nat.zero_le _) (by simpa using h)).2
theorem parted_any (b x : Nat) (T c : ByteArray) (o : Option Nat) (fs : List (ByteArray × ByteArray)) (w : World) (hW : WorldAt w b x T o) (hV : SomeAt w x fs) (hx : x ≠ b) (hM : MOk 0 fs) (hT : Fine T) (hc : c.size ≤ 1073741824) :
    Calls Tryz.prog 9 #[.pointer (some ⟨b, 0, none⟩), .string c] w fun e w' => e = .returned (.bool true) ∧ Kept [x] w w' := by
  cases hh : holdsF c with
  | true => exact (parted_inc b c w hc hh).mono (fun e w' h => ⟨h.1, by rw [h.2]; exact Kept.refl _ _⟩)
  | false =>
    have hUi : holdsF (T ++ ⟨#[10]⟩ ++ c) = false := holds_more T c hT.inc hh
    obtain ⟨U, eU⟩ : ∃ U, T ++ ⟨#[10]⟩ ++ c = U := ⟨_, rfl⟩
    obtain ⟨K, eK⟩ : ∃ K, T ++ litC ++ c = K := ⟨_, rfl⟩
    obtain ⟨I, eI⟩ : ∃ I, litI ++ c = I := ⟨_, rfl⟩
    rw [eU] at hUi
    by_cases hl : 1024 < U.size
    · exact parted_long b x T c U o fs w hW hV hx hM hT hc hh eU hl
    · obtain ⟨M, h1, hS⟩ := sees b x T c U K I o hx hT hh eU eK eI hl
      have hok : RwsOk (rowsM T ++ M) := by rw [← h1]; exact (rdM_rec _ (by omega) hUi).rows
      have hfile : ∀ q ∈ rowsM T ++ M, q.at_.file = ⟨#[]⟩ ∨ q.at_.file = ⟨#[109]⟩ := by rw [← h1]; exact rowsM_file _
      have hln : ((rdM U).1.1 == 0) = false → 1 ≤ lineAt U (rdM U).1.2 ∧ lineAt U (rdM U).1.2 ≤ 1100 := fun h => by
        have h2 := line_le U (rdM U).1.2
        have h3 := rdM_pos U h
        omega
      clear h1 hUi
      unfold litC at eK
      unfold litI at eI
      generalize (rdM U).1.1 = r at *
      generalize lineAt U (rdM U).1.2 = ln at *
      generalize colAt U (rdM U).1.2 = cl at *
      cases hr : (r == 0) with
      | false => exact parted_bad b x T c U K I o fs w hW hV hx hM hT hc hh eU eK eI r ln cl M hS hl hr (hln hr)
      | true =>
        by_cases hk : 1024 < K.size
        · exact parted_goodL b x T c U K I o fs w hW hV hx hM hT hc hh eU eK eI r ln cl M hS hl hr hok hk hfile
        · exact parted_goodK b x T c U K I o fs w hW hV hx hM hT hc hh eU eK eI r ln cl M hS hl hr hok hk hfile

set_option maxHeartbeats 1000000 in
set_option maxRecDepth 100000 in
theorem parted_all : PartedWalk := by
  intro ao cap l c w hl hls hcs hc
  have HSM := (show Hid _ from smallish ao cap l w hl hls hc)
  go_enter Tryz.func3, Tryz.ntmps3
  go_wp2_with fail
  refine Calls.mono HSM.out ?_
  rintro e w1 ⟨⟨r, rfl, hr⟩, hw1⟩
  subst hw1
  cases r
  · go_wp2
    go_ret
    exact ⟨rfl, Below.refl _ _⟩
  · obtain ⟨hl1, hl2⟩ := hr rfl
    by_cases ha : 1073741824 < c.size
    · go_wp2
      go_ret
      exact ⟨rfl, Below.refl _ _⟩
    · go_wp2_with fail
      refine (firstly_any _).mono ?_
      rintro e w0 ⟨rfl, hk0⟩
      have hc0 : l.length = 0 ∨ ∃ b off, ao = some ⟨b, off, none⟩ ∧ ChunksAt w0 b off l := by
        rcases hc with h0 | ⟨b, off, he, hcc⟩
        · exact Or.inl h0
        · exact Or.inr ⟨b, off, he, hcc.kept hk0 (by simp)⟩
      go_wp2_with fail
      refine (grown_any ao cap l _ hl1 hl2 hc0).mono ?_
      rintro e w2 ⟨b, x, rfl, ⟨la, lb, lc, ⟨T, o, hW, hT⟩, ⟨fs, hV, hM⟩⟩, hk2⟩
      have hz0 := hk0.size
      go_wp2_with fail
      refine (parted_any b x T c o fs _ hW hV lc hM hT (by omega)).mono ?_
      rintro e w4 ⟨rfl, hk4⟩
      go_wp2
      go_ret
      refine ⟨rfl, ?_⟩
      have hk : Kept [x] w1 w4 := ((hk0.trans hk2).mono (by simp)).trans hk4
      exact ⟨hk.os, hk.tape, hk.output, hk.size, fun k hk' => hk.block k hk' (by simp; omega)⟩

theorem parted_holds : Rows.PartedSaid := partedOver parted_all

end Go.Proofs.YtcipkfhpcbddiaaGreat
