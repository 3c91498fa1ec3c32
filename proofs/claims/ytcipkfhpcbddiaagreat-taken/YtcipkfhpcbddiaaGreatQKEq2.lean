import Derived.Test.YtcipkfhpcbddiaaGreatQPuT
/- Package metaproofkeep: rows whose lines are moved; sameRow, sameRows. -/
namespace Go.Proofs.YtcipkfhpcbddiaaGreat
open Go.RowKit
attribute [local go_sem] rowEql

set_option maxHeartbeats 800000 in
theorem sameRow_by (s f : ByteArray) (v y l l' c δ : Int) (w : World) (hl : -1000000000 ≤ l ∧ l ≤ 1000000000) (hδ : -1000000000 ≤ δ ∧ δ ≤ 1000000000) (h1 : (f.toList == []) = true → l' = l) (h2 : (f.toList == []) = false → l' = l + δ) :
    Calls Tryz.prog 37 #[.agg #[.string s, .int .i64 v, .int .i64 y, .string f, .int .i64 l, .int .i64 c], .agg #[.string s, .int .i64 v, .int .i64 y, .string f, .int .i64 l', .int .i64 c], .int .i64 δ] w fun e w' => e = .returned (.bool true) ∧ Kept [] w w' := by
  have hw : IntKind.i64.wrap (l + δ) = l + δ := by rw [IntKind.wrap_i64]; omega
  cases hf : (f.toList == [])
  · have e := h2 hf
    subst e
    clear h1 h2
    go_enter Tryz.func37, Tryz.ntmps37
    go_wp2
    go_ret
    exact ⟨rfl, ((Kept.refl _ _).alloc _).alloc _⟩
  · have e := h1 hf
    subst e
    clear h1 h2
    go_enter Tryz.func37, Tryz.ntmps37
    go_wp2
    go_ret
    exact ⟨rfl, ((Kept.refl _ _).alloc _).alloc _⟩

theorem rw_off {w : World} {g o : Nat} {cur : Array Value} {t : TypeId} {L : List Rw} (h : w.heap[g]? = some (.cells cur t (0, 0))) (hx : ∀ (j : Nat) v, (rwsV L)[j]? = some v → cur[o + j]? = some v) (k : Nat) (hk : k < L.length) :
    w.cell? ⟨g, o + k * 6, none⟩ = some (.string L[k].label) ∧ w.cell? ⟨g, o + k * 6 + 1, none⟩ = some (.int .i64 L[k].verdict) ∧ w.cell? ⟨g, o + k * 6 + 2, none⟩ = some (.int .i64 L[k].why) ∧ w.cell? ⟨g, o + k * 6 + 3, none⟩ = some (.string L[k].at_.file) ∧ w.cell? ⟨g, o + k * 6 + 4, none⟩ = some (.int .i64 L[k].at_.line) ∧ w.cell? ⟨g, o + k * 6 + 5, none⟩ = some (.int .i64 L[k].at_.col) := by
  have c := fun j (hj : j < 6) v (hv : (rwV L[k])[j]? = some v) => (cell_of h (o + (k * 6 + j))).trans (hx _ _ ((rwsV_at L k hk j hj).trans hv))
  exact ⟨c 0 (by omega) _ rfl, c 1 (by omega) _ rfl, c 2 (by omega) _ rfl, c 3 (by omega) _ rfl, c 4 (by omega) _ rfl, c 5 (by omega) _ rfl⟩
theorem πL_line (δ : Int) (p : Pl) : (πL δ p).file = p.file ∧ (πL δ p).col = p.col ∧ ((p.file.toList == []) = true → (πL δ p).line = p.line) ∧ ((p.file.toList == []) = false → (πL δ p).line = p.line + δ) := by
  unfold πL
  cases h : (p.file.toList == []) <;> simp

set_option maxHeartbeats 1000000 in
set_option maxRecDepth 100000 in
theorem sameRows_gen (g1 g2 o1 o2 c1 c2 : Nat) (L : List Rw) (δ : Int) (w : World) (cur1 cur2 : Array Value) (t1 t2 : TypeId) (h1 : w.heap[g1]? = some (.cells cur1 t1 (0, 0))) (h2 : w.heap[g2]? = some (.cells cur2 t2 (0, 0)))
    (x1 : ∀ (j : Nat) v, (rwsV L)[j]? = some v → cur1[o1 + j]? = some v) (x2 : ∀ (j : Nat) v, (rwsV (L.map (mapRw (πL δ))))[j]? = some v → cur2[o2 + j]? = some v) (hL : L.length ≤ 100000) (hl : ∀ r ∈ L, LnOk r.at_) (hδ : -1000000000 ≤ δ ∧ δ ≤ 1000000000) :
    Calls Tryz.prog 20 #[.slice (some ⟨g1, o1, none⟩) L.length c1, .slice (some ⟨g2, o2, none⟩) L.length c2, .int .i64 δ] w fun e w' => e = .returned (.bool true) ∧ Kept [] w w' := by
  have hg1 := lt_of_get h1
  have hg2 := lt_of_get h2
  go_enter Tryz.func20, Tryz.ntmps20
  go_wp2
  go_loopg [7, 8] L.length (fun g i _ wr => ∃ k : Nat, k ≤ L.length ∧ g = L.length - k ∧ i = .int .i64 k ∧ Kept [] w wr)
  case atStart => exact ⟨0, by omega, by omega, rfl, Kept.refl _ _⟩
  case round =>
    obtain ⟨k, hk, hg, rfl, hK⟩ := hrel
    by_cases hlt : k < L.length
    · obtain ⟨a0, a1, a2, a3, a4, a5⟩ := rw_off (hK.get h1 (by simp)) x1 k hlt
      obtain ⟨b0, b1, b2, b3, b4, b5⟩ := rw_off (hK.get h2 (by simp)) x2 k (by simpa using hlt)
      have hr := hl L[k] (List.getElem_mem hlt)
      have hs := hK.size
      rw [List.getElem_map] at b0 b1 b2 b3 b4 b5
      have hπ := πL_line δ L[k].at_
      generalize L[k] = r at *
      obtain ⟨la, ve, wy, ⟨fi, li, co⟩⟩ := r
      simp only [LnOk, mapRw] at a0 a1 a2 a3 a4 a5 b0 b1 b2 b3 b4 b5 hr hπ
      rw [hπ.1] at b3
      rw [hπ.2.1] at b5
      have HSR := (show Hid _ from fun w' => sameRow_by la fi ve wy li (πL δ ⟨fi, li, co⟩).line co δ w' hr hδ hπ.2.2.1 hπ.2.2.2)
      clear hπ
      generalize (πL δ ⟨fi, li, co⟩).line = li' at *
      go_upto_region 6 with fail
      go_region_with (go_at_call 37; refine (HSR.out _).mono ?_; rintro e w2 ⟨rfl, hk2⟩)
      all_goals
        have hK2 := hK.trans ((Kept.refl [] wr).drew.trans hk2)
        go_wp2
        go_roundg (L.length - (k + 1))
        case measure => omega
        case rel => exact ⟨k + 1, by omega, rfl, by go_num, hK2⟩
    · go_wp2
      go_ret
      exact ⟨rfl, hK⟩
theorem sameRows_nilBy (a1 a2 : Option Addr) (c1 c2 : Nat) (δ : Int) (w : World) :
    Calls Tryz.prog 20 #[.slice a1 0 c1, .slice a2 0 c2, .int .i64 δ] w fun e w' => e = .returned (.bool true) ∧ Kept [] w w' := by
  go_enter Tryz.func20, Tryz.ntmps20
  go_wp2
  refine wp_loop_rounds 1 ?_
  rw [rounds_succ]
  go_wp2
  go_ret
  exact ⟨rfl, Kept.refl _ _⟩

end Go.Proofs.YtcipkfhpcbddiaaGreat
