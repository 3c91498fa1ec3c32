import Derived.Deep.RegionHeld3
import Derived.Test.YtkancbaldeeijaaGreatG30
import Derived.Test.YtkancbaldeeijaaGreatQPlc1
/- Package metaproofkeep: placed. -/
namespace Go.Proofs.YtkancbaldeeijaaGreat
open Go.RowKit

theorem seen_stored {w : World} {r : Nat} {b0 b1 b2 b3 b4 b5 : Value} (h : w.heap[r]? = some (.cells #[b0, b1, b2, b3, b4, b5] 52 (0, 0))) (a0 a1 a2 a3 a4 a5 : Value) :
    ((((((w.setCell ⟨r, 0, none⟩ a0).setCell ⟨r, 1, none⟩ a1).setCell ⟨r, 2, none⟩ a2).setCell ⟨r, 3, none⟩ a3).setCell ⟨r, 4, none⟩ a4).setCell ⟨r, 5, none⟩ a5).heap[r]? = some (.cells #[a0, a1, a2, a3, a4, a5] 52 (0, 0)) := by
  rw [block_setCell (block_setCell (block_setCell (block_setCell (block_setCell (block_setCell h 0 a0) 1 a1) 2 a2) 3 a3) 4 a4) 5 a5]
  rfl
theorem place_cells {w : World} {r : Nat} {a0 a1 a2 : Value} (h : w.heap[r]? = some (.cells #[a0, a1, a2] 45 (0, 0))) :
    w.cell? ⟨r, 0, none⟩ = some a0 ∧ w.cell? ⟨r, 1, none⟩ = some a1 ∧ w.cell? ⟨r, 2, none⟩ = some a2 := by
  refine ⟨?_, ?_, ?_⟩ <;> (rw [cell_of h]; rfl)
theorem place_next {w : World} {r : Nat} {n d : ByteArray} {k : Nat} {l c : Int} (h : w.heap[r]? = some (.cells #[.string n, .int .i64 l, .int .i64 c] 45 (0, 0))) (hl : l = lineAt d k) (hc : c = colAt d k) (hk : k < d.size) :
    (((d[k].toNat : Int) == 10) = false → (w.setCell ⟨r, 2, none⟩ (.int .i64 (c + 1))).heap[r]? = some (.cells #[.string n, .int .i64 (lineAt d (k + 1)), .int .i64 (colAt d (k + 1))] 45 (0, 0))) ∧
    (((d[k].toNat : Int) == 10) = true → (((w.setCell ⟨r, 2, none⟩ (.int .i64 (c + 1))).setCell ⟨r, 1, none⟩ (.int .i64 (l + 1))).setCell ⟨r, 2, none⟩ (.int .i64 1)).heap[r]? = some (.cells #[.string n, .int .i64 (lineAt d (k + 1)), .int .i64 (colAt d (k + 1))] 45 (0, 0))) := by
  subst hl hc
  constructor
  · intro hb
    rw [block_setCell h 2 _]
    simp [lineAt, colAt, byteAt_of d k hk, hb]
  · intro hb
    rw [block_setCell (block_setCell (block_setCell h 2 _) 1 _) 2 _]
    simp [lineAt, colAt, byteAt_of d k hk, hb]
attribute [local go_sem] build_place

set_option maxHeartbeats 2000000 in
set_option maxRecDepth 100000 in
theorem placed_any (b x : Nat) (T : ByteArray) (a : Int) (o : Option Nat) (fs : List (ByteArray × ByteArray)) (w : World) (hW : WorldAt w b x T o) (hV : SomeAt w x fs) (hx : x ≠ b) (hM : MOk 0 fs) (hT : Fine T) (ha : -9223372036854775808 ≤ a ∧ a ≤ 9223372036854775807) :
    Calls Tryz.prog 12 #[.pointer (some ⟨b, 0, none⟩), .int .i64 a] w fun e w' => e = .returned (.bool true) ∧ Kept [x] w w' := by
  have hTs := hT.size
  have hbw := hW.lt
  obtain ⟨c0, c1, -⟩ := hW.cells
  go_enter Tryz.func12, Tryz.ntmps12
  go_wp2_with fail
  refine (pick_any a (T.size + 1) _ ha (by omega)).mono ?_
  rintro e w1 ⟨⟨k, rfl, hk⟩, hw1⟩
  subst hw1
  have PT := placed_texts T _ k (by omega) hT rfl
  have HPT := (show Hid _ from PT)
  have hkl : (k : Int) ≤ (T.size : Int) := by omega
  obtain ⟨rr, ff, ll, cc, ee, SEE, HCS⟩ : ∃ (rr : Int) (ff : ByteArray) (ll cc ee : Int),
      Hid (∀ wx : World, Kept [] w1 wx → Calls Tryz.prog 21 #[.pointer (some ⟨b, 0, none⟩), .string (T.extract 0 k ++ ⟨#[7]⟩ ++ T.extract k T.size)] wx fun e w' =>
        e = .returned (.tuple #[.agg #[.slice none 0 0, .int .i64 rr, .string ff, .int .i64 ll, .int .i64 cc, .int .i64 ee], .bool true]) ∧ WorldAt w' b x T o ∧ (∃ fs', SomeAt w' x fs' ∧ MOk 0 fs') ∧ Kept [x] wx w') ∧
      Hid (ee = 3 ∨ (ee = 6 ∧ rr = 1 ∧ ff = ⟨#[109]⟩ ∧ ll = lineAt T k ∧ cc = colAt T k)) := by
    by_cases hl : 1024 < T.size + 1
    · refine ⟨0, ⟨#[]⟩, 0, 0, 3, fun wx h1 => ?_, Or.inl rfl⟩
      refine (see_long b x T _ o fs wx (hW.still h1) (hV.kept h1 (by simp)) hx (by rw [PT.1]; exact hl) (by rw [PT.1]; omega)).mono ?_
      rintro e w' ⟨rfl, a1, a2, a3⟩
      exact ⟨rfl, a1, ⟨fs, a2, hM⟩, a3⟩
    · refine ⟨1, ⟨#[109]⟩, lineAt T k, colAt T k, 6, fun wx h1 => ?_, Or.inr ⟨rfl, rfl, rfl, rfl, rfl⟩⟩
      refine (see_short (N := 0) (by omega) b x T _ o fs wx (hW.still h1) (hV.kept h1 (by simp)) hx (by rw [PT.1]; exact hl) hM PT.2.1).mono ?_
      rintro e w' ⟨o', rfl, -, -, a1, a2, a3⟩
      refine ⟨?_, a1, a2, a3⟩
      unfold seeV seenV
      rw [PT.2.2.1]
      simp only [PT.2.2.2.1, PT.2.2.2.2]
      rfl
  have hxw := hV.lt
  have hSa : Hid (∀ w2 : World, Kept [x] (w1.alloc (.cells #[.slice none 0 0, .int .i64 0, .string ⟨#[]⟩, .int .i64 0, .int .i64 0, .int .i64 0] 52)).drew w2 → w2.heap[w1.heap.size]? = some (.cells #[.slice none 0 0, .int .i64 0, .string ⟨#[]⟩, .int .i64 0, .int .i64 0, .int .i64 0] 52 (0, 0))) := fun w2 hk => hk.get (heap_alloc_new w1 (.cells #[.slice none 0 0, .int .i64 0, .string ⟨#[]⟩, .int .i64 0, .int .i64 0, .int .i64 0] 52)) (by simp; omega)
  have HRL : Hid (∀ g, o = some g → g < w1.heap.size) := hW.rows.lt
  clear PT HPT
  go_upto_region 2 with fail
  go_cut [6, 7] from 8 (fun s6 s7 wc => ∃ s, w1.heap.size ≤ s ∧ s6 = .pointer (some ⟨s, 0, none⟩) ∧ s7 = .bool true ∧ wc.heap[s]? = some (.cells #[.slice none 0 0, .int .i64 rr, .string ff, .int .i64 ll, .int .i64 cc, .int .i64 ee] 52 (0, 0)) ∧ WorldAt wc b x T o ∧ (∃ fs', SomeAt wc x fs' ∧ MOk 0 fs') ∧ Kept [x] w1 wc)
  case first =>
    have hnew := World.new_ne w1 ⟨b, 1, none⟩ c1
    have hz1 : ¬ 9223372036854775807 < min k T.size + 1 := by omega
    have hz2 : ¬ 9223372036854775807 < min k T.size + 1 + (T.size - k) := by omega
    go_region_held3 (fun w' => w'.cell? ⟨b, 1, none⟩ = some (.string T)) (go_keep) (first | (go_at_call 21; refine Calls.mono (SEE.out _ (by first | exact ((Kept.refl [] w1).alloc (.cells #[.slice none 0 0, .int .i64 0, .string ⟨#[]⟩, .int .i64 0, .int .i64 0, .int .i64 0] 52)).drew | exact (Kept.refl [] w1).drew)) ?_; rintro e w2 ⟨rfl, hW2, hV2, hk2⟩; obtain ⟨d0, d1, -⟩ := hW2.cells; try (obtain ⟨y0, y1, y2, y3, y4, y5⟩ := seen_cells (hSa.out w2 hk2); have y := free_of (hSa.out w2 hk2))))
    · go_wp2_with fail
      go_meet
      case rel => exact ⟨w2.heap.size, hk2.size, rfl, rfl, heap_alloc_new _ _, hW2.still ((Kept.refl [] _).alloc _), ⟨_, hV2.choose_spec.1.kept ((Kept.refl [] _).alloc _) (by simp), hV2.choose_spec.2⟩, ((Kept.refl [x] w1).drew.trans hk2).alloc _⟩
    · go_wp2_with fail
      go_meet
      case rel =>
        refine ⟨w1.heap.size, Nat.le_refl _, rfl, rfl, seen_stored (hSa.out w2 hk2) _ _ _ _ _ _, hW2.kept (six_in _ _ _ _ _ _) (by simp; omega) (fun g hg => by have := HRL.out g hg; simp; omega), ⟨_, hV2.choose_spec.1.kept (six_in _ _ _ _ _ _) (by simp; omega), hV2.choose_spec.2⟩, six_kept (((Kept.refl [x] w1).alloc _).drew.trans hk2) (Nat.le_refl _) _ _ _ _ _ _⟩
  case rest =>
    obtain ⟨s, hs, rfl, rfl, hS, hWc, ⟨fs2, hV2, hM2⟩, hkc⟩ := hcut
    obtain ⟨y0, y1, y2, y3, y4, y5⟩ := seen_cells hS
    obtain ⟨d0, d1, -⟩ := hWc.cells
    have hsw := lt_of_get hS
    clear SEE hSa c0 c1
    rcases HCS.out with h3 | ⟨h6, hrr, hff, hll, hcc⟩
    · subst h3
      go_wp2_with fail
      refine (back_any (N := 0) (by omega) b x T o fs2 _ hWc hV2 hx hM2 hT).mono ?_
      rintro e w3 ⟨rfl, -, -, hk3⟩
      go_wp2
      go_ret
      exact ⟨rfl, hkc.trans hk3⟩
    · subst h6 hrr hff
      have HLL := (show Hid _ from hll)
      have HCC := (show Hid _ from hcc)
      clear hll hcc HCS
      go_wp2_with fail
      go_loopg [9] k (fun g i wr => ∃ j : Nat, j ≤ k ∧ g = k - j ∧ i = .int .i64 j ∧ wr.heap[wc.heap.size]? = some (.cells #[.string ⟨#[109]⟩, .int .i64 (lineAt T j), .int .i64 (colAt T j)] 45 (0, 0)) ∧ Kept [] wc wr)
      case atStart => exact ⟨0, by omega, by omega, rfl, heap_alloc_new _ _, (Kept.refl _ _).alloc _⟩
      case round =>
        obtain ⟨j, hj, hg, rfl, hP, hkr⟩ := hrel
        obtain ⟨p0, p1, p2⟩ := place_cells hP
        have hpf := free_of hP
        have hWr := hWc.still hkr
        obtain ⟨e0, e1, -⟩ := hWr.cells
        have hpw := lt_of_get hP
        have hne : b ≠ wc.heap.size := by have := hWc.lt; omega
        have hne2 : s ≠ wc.heap.size := by omega
        by_cases hlt : j < k
        · have hjs : j < T.size := by omega
          have hli := line_le T j
          have hci := col_le T j
          have HN := (show Hid _ from place_next hP (d := T) (k := j) rfl rfl hjs)
          clear y0 y1 y2 y3 y4 y5 d0 d1 hS
          cases hb : ((T[j].toNat : Int) == 10)
          · go_wp2
            go_roundg (k - (j + 1))
            case measure => omega
            case rel => exact ⟨j + 1, by omega, rfl, by go_num, (HN.out.1 hb), hkr.setCell (Or.inr (Nat.le_refl _)) _⟩
          · go_wp2
            go_roundg (k - (j + 1))
            case measure => omega
            case rel => exact ⟨j + 1, by omega, rfl, by go_num, (HN.out.2 hb), ((hkr.setCell (Or.inr (Nat.le_refl _)) _).setCell (Or.inr (Nat.le_refl _)) _).setCell (Or.inr (Nat.le_refl _)) _⟩
        · have hjk : j = k := by omega
          subst hjk
          have hSr := hkr.get hS (by simp)
          obtain ⟨z0, z1, z2, z3, z4, z5⟩ := seen_cells hSr
          rw [HLL.out] at z3
          rw [HCC.out] at z4
          have hpn := fun (wx : World) => placeNeq ⟨#[109]⟩ (lineAt T j) (colAt T j) wx
          clear y0 y1 y2 y3 y4 y5 d0 d1 hS
          go_wp2_with fail
          refine (back_any (N := 0) (by omega) b x T o fs2 _ hWr (hV2.kept hkr (by simp)) hx hM2 hT).mono ?_
          rintro e w3 ⟨rfl, -, -, hk3⟩
          go_wp2
          go_ret
          exact ⟨rfl, (hkc.trans (hkr.mono (by simp))).trans hk3⟩

end Go.Proofs.YtkancbaldeeijaaGreat
