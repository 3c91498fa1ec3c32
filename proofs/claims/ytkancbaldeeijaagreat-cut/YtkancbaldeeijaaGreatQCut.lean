import Derived.Test.YtkancbaldeeijaaGreatG11
import Derived.Test.YtkancbaldeeijaaGreatG30
/- Package metaproofkeep: cut. -/
namespace Go.Proofs.YtkancbaldeeijaaGreat
open Go.RowKit

theorem rows_cut (T : ByteArray) (k : Nat) (hk : k ≤ T.size) (hT : Fine T) (h0 : (rdM (T.extract 0 k)).1.1 = 0) : ∃ m, rowsM T = rowsM (T.extract 0 k) ++ m := by
  obtain ⟨m, hm⟩ := cut_sts T k hk hT.ok h0
  have hs : (T.extract 0 k).size ≤ 1024 := by have := hT.size; simp; omega
  have g := rdM_rec (T.extract 0 k) hs (holds_cut T k hk hT.inc)
  unfold rowsM
  rw [hm]
  exact rows_fore _ m g.ok g.prf

/-- What a look at the text's beginning tells. -/
theorem cut_seen (T : ByteArray) (k : Nat) (hk : k ≤ T.size) (hT : Fine T) (o' : Option Nat) (w : World) (hR : ((rdM (T.extract 0 k)).1.1 == 0) = true → RowsAt w o' (rowsM (T.extract 0 k))) :
    ∃ (o1 : Option Nat) (L m : List Rw) (r : Int) (f : ByteArray) (l c e : Int), seeV o' (T.extract 0 k) = seenV (rowsSl o1 L.length) r f l c e ∧ RowsAt w o1 L ∧ rowsM T = L ++ m := by
  unfold seeV
  cases hr : ((rdM (T.extract 0 k)).1.1 == 0) with
  | true =>
    obtain ⟨m, hm⟩ := rows_cut T k hk hT (by simpa using hr)
    exact ⟨o', rowsM (T.extract 0 k), m, 0, ⟨#[]⟩, 0, 0, 0, by rw [if_pos rfl], hR hr, hm⟩
  | false =>
    exact ⟨none, [], rowsM T, _, _, _, _, _, by rw [if_neg (by simp)]; rfl, rfl, rfl⟩

set_option maxHeartbeats 2000000 in
set_option maxRecDepth 100000 in
theorem cut_any (b x : Nat) (T : ByteArray) (a : Int) (o : Option Nat) (fs : List (ByteArray × ByteArray)) (w : World) (hW : WorldAt w b x T o) (hV : SomeAt w x fs) (hx : x ≠ b) (hM : MOk 0 fs) (hT : Fine T) (ha : -9223372036854775808 ≤ a ∧ a ≤ 9223372036854775807) :
    Calls Tryz.prog 16 #[.pointer (some ⟨b, 0, none⟩), .int .i64 a] w fun e w' => e = .returned (.bool true) ∧ Kept [x] w w' := by
  have hTs := hT.size
  have hbw := hW.lt
  obtain ⟨c0, c1, -⟩ := hW.cells
  go_enter Tryz.func16, Tryz.ntmps16
  go_wp2_with fail
  refine (pick_any a (T.size + 1) _ ha (by omega)).mono ?_
  rintro e w1 ⟨⟨k, rfl, hk⟩, hw1⟩
  rw [hw1]
  have hkl : (k : Int) ≤ (T.size : Int) := by omega
  have hks : (T.extract 0 k).size = k := by simp; omega
  have SF := see_short (N := 0) (by omega) b x T (T.extract 0 k) o fs w hW hV hx (by omega) hM (holds_cut T k (by omega) hT.inc)
  unfold SeeSays at SF
  have HCS := (show Hid _ from fun o' w2 => cut_seen T k (by omega) hT o' w2)
  have HSF := (show Hid _ from SF)
  clear SF
  go_wp2_with fail
  refine Calls.mono HSF.out ?_
  rintro e w2 ⟨o', rfl, hR2, hg2, hW2, ⟨fs', hV2, hM2⟩, hk2⟩
  obtain ⟨o1, L, m, r, f, l, c, e, hse, hR1, hLm⟩ := HCS.out o' w2 hR2
  rw [hse]
  have hok := hT.rws
  have BG := fun (w' : World) (q : Kept [] w2 w') => begins_any o1 o L m w' (hR1.still q) (by rw [← hLm]; exact hW2.rows.still q) (by rw [← hLm]; exact hok)
  rw [← hLm] at BG
  have hb2 := hW2.lt
  obtain ⟨d0, d1, d2⟩ := hW2.cells
  obtain ⟨ao1, n1, c1', hrs1⟩ := rowsSl_is o1 L.length
  obtain ⟨ao2, n2, c2', hrs2⟩ := rowsSl_is o (rowsM T).length
  rw [hrs1, hrs2] at BG
  rw [hrs2] at d2
  rw [hrs1]
  have HBG := (show Hid _ from BG)
  clear BG hrs1 hrs2 hok hR2 hR1 hLm hse c0 c1 HCS HSF
  simp only [seenV]
  go_upto_region 5 with fail
  obtain ⟨W3, hW3⟩ : ∃ W3, W3 = w2.alloc (.cells #[.slice ao1 n1 c1', .int .i64 r, .string f, .int .i64 l, .int .i64 c, .int .i64 e] 52) := ⟨_, rfl⟩
  have k3 : Kept [] w2 W3 := by rw [hW3]; exact (Kept.refl [] _).alloc _
  have B3 : W3.heap[w2.heap.size]? = some (.cells #[.slice ao1 n1 c1', .int .i64 r, .string f, .int .i64 l, .int .i64 c, .int .i64 e] 52 (0, 0)) := by rw [hW3]; exact heap_alloc_new _ _
  rw [← hW3]
  have s0 := (seen_cells B3).1
  have e2 : W3.cell? ⟨b, 2, none⟩ = some (.slice ao2 n2 c2') := by
    rw [World.cell?_of_block (k3.block b hb2 (by simp))]; exact d2
  have hb3 : b < W3.heap.size := Nat.lt_of_lt_of_le hb2 k3.size
  clear hW3 d0 d1 d2
  go_region_with (go_at_call 27; refine (HBG.out _ (by exact k3.trans (Kept.refl [] W3).drew)).mono ?_; rintro e w4 ⟨rfl, k4⟩)
  all_goals
    have K4 : Kept [] w2 w4 := (k3.trans (Kept.refl [] W3).drew).trans k4
    clear s0 e2 B3
    go_wp2_with fail
    refine (back_any (N := 0) (by omega) b x T o fs' _ (hW2.still K4) (hV2.kept K4 (by simp)) hx hM2 hT).mono ?_
    rintro e w5 ⟨rfl, -, -, hk5⟩
    go_wp2
    go_ret
    exact ⟨rfl, (hk2.trans (K4.mono (by simp))).trans hk5⟩

end Go.Proofs.YtkancbaldeeijaaGreat
