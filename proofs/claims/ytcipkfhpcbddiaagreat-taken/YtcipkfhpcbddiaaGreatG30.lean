/- Our texts: KEq2, Prt1. -/
import Derived.Test.YtcipkfhpcbddiaaGreatG21
import Derived.Test.YtcipkfhpcbddiaaGreatG22
import Derived.Test.YtcipkfhpcbddiaaGreatG29
/- Package metaproofkeep: rows whose lines are moved; sameRow, sameRows. -/
namespace Go.Proofs.YtcipkfhpcbddiaaGreat
open Go.RowKit
attribute [local go_sem] rowEql

set_option maxHeartbeats 800000 in
theorem sameRow_by (s f : ByteArray) (v y l l' c δ : Int) (w : World) (hl : -1000000000 ≤ l ∧ l ≤ 1000000000) (hδ : -1000000000 ≤ δ ∧ δ ≤ 1000000000) (h1 : (f.toList == []) = true → l' = l) (h2 : (f.toList == []) = false → l' = l + δ) :
    Calls Tryz.prog 37 #[.agg #[.string s, .int .i64 v, .int .i64 y, .string f, .int .i64 l, .int .i64 c], .agg #[.string s, .int .i64 v, .int .i64 y, .string f, .int .i64 l', .int .i64 c], .int .i64 δ] w fun e w' => e = .returned (.bool true) ∧ Kept [] w w' := by
  have hw : IntKind.i64.wrap (l + δ) = l + δ := by rw [IntKind.wrap_i64]; omega
  cases hf : (f.toList == [])
  · have e := h2 hf
    subst e
    clear h1 h2
    go_enter Tryz.func37, Tryz.ntmps37
    go_wp2
    go_ret
    exact ⟨rfl, ((Kept.refl _ _).alloc _).alloc _⟩
  · have e := h1 hf
    subst e
    clear h1 h2
    go_enter Tryz.func37, Tryz.ntmps37
    go_wp2
    go_ret
    exact ⟨rfl, ((Kept.refl _ _).alloc _).alloc _⟩

theorem rw_off {w : World} {g o : Nat} {cur : Array Value} {t : TypeId} {L : List Rw} (h : w.heap[g]? = some (.cells cur t (0, 0))) (hx : ∀ (j : Nat) v, (rwsV L)[j]? = some v → cur[o + j]? = some v) (k : Nat) (hk : k < L.length) :
    w.cell? ⟨g, o + k * 6, none⟩ = some (.string L[k].label) ∧ w.cell? ⟨g, o + k * 6 + 1, none⟩ = some (.int .i64 L[k].verdict) ∧ w.cell? ⟨g, o + k * 6 + 2, none⟩ = some (.int .i64 L[k].why) ∧ w.cell? ⟨g, o + k * 6 + 3, none⟩ = some (.string L[k].at_.file) ∧ w.cell? ⟨g, o + k * 6 + 4, none⟩ = some (.int .i64 L[k].at_.line) ∧ w.cell? ⟨g, o + k * 6 + 5, none⟩ = some (.int .i64 L[k].at_.col) := by
  have c := fun j (hj : j < 6) v (hv : (rwV L[k])[j]? = some v) => (cell_of h (o + (k * 6 + j))).trans (hx _ _ ((rwsV_at L k hk j hj).trans hv))
  exact ⟨c 0 (by omega) _ rfl, c 1 (by omega) _ rfl, c 2 (by omega) _ rfl, c 3 (by omega) _ rfl, c 4 (by omega) _ rfl, c 5 (by omega) _ rfl⟩
theorem πL_line (δ : Int) (p : Pl) : (πL δ p).file = p.file ∧ (πL δ p).col = p.col ∧ ((p.file.toList == []) = true → (πL δ p).line = p.line) ∧ ((p.file.toList == []) = false → (πL δ p).line = p.line + δ) := by
  unfold πL
  cases h : (p.file.toList == []) <;> simp

set_option maxHeartbeats 1000000 in
set_option maxRecDepth 100000 in
theorem sameRows_gen (g1 g2 o1 o2 c1 c2 : Nat) (L : List Rw) (δ : Int) (w : World) (cur1 cur2 : Array Value) (t1 t2 : TypeId) (h1 : w.heap[g1]? = some (.cells cur1 t1 (0, 0))) (h2 : w.heap[g2]? = some (.cells cur2 t2 (0, 0)))
    (x1 : ∀ (j : Nat) v, (rwsV L)[j]? = some v → cur1[o1 + j]? = some v) (x2 : ∀ (j : Nat) v, (rwsV (L.map (mapRw (πL δ))))[j]? = some v → cur2[o2 + j]? = some v) (hL : L.length ≤ 100000) (hl : ∀ r ∈ L, LnOk r.at_) (hδ : -1000000000 ≤ δ ∧ δ ≤ 1000000000) :
    Calls Tryz.prog 20 #[.slice (some ⟨g1, o1, none⟩) L.length c1, .slice (some ⟨g2, o2, none⟩) L.length c2, .int .i64 δ] w fun e w' => e = .returned (.bool true) ∧ Kept [] w w' := by
  have hg1 := lt_of_get h1
  have hg2 := lt_of_get h2
  go_enter Tryz.func20, Tryz.ntmps20
  go_wp2
  go_loopg [7, 8] L.length (fun g i _ wr => ∃ k : Nat, k ≤ L.length ∧ g = L.length - k ∧ i = .int .i64 k ∧ Kept [] w wr)
  case atStart => exact ⟨0, by omega, by omega, rfl, Kept.refl _ _⟩
  case round =>
    obtain ⟨k, hk, hg, rfl, hK⟩ := hrel
    by_cases hlt : k < L.length
    · obtain ⟨a0, a1, a2, a3, a4, a5⟩ := rw_off (hK.get h1 (by simp)) x1 k hlt
      obtain ⟨b0, b1, b2, b3, b4, b5⟩ := rw_off (hK.get h2 (by simp)) x2 k (by simpa using hlt)
      have hr := hl L[k] (List.getElem_mem hlt)
      have hs := hK.size
      rw [List.getElem_map] at b0 b1 b2 b3 b4 b5
      have hπ := πL_line δ L[k].at_
      generalize L[k] = r at *
      obtain ⟨la, ve, wy, ⟨fi, li, co⟩⟩ := r
      simp only [LnOk, mapRw] at a0 a1 a2 a3 a4 a5 b0 b1 b2 b3 b4 b5 hr hπ
      rw [hπ.1] at b3
      rw [hπ.2.1] at b5
      have HSR := (show Hid _ from fun w' => sameRow_by la fi ve wy li (πL δ ⟨fi, li, co⟩).line co δ w' hr hδ hπ.2.2.1 hπ.2.2.2)
      clear hπ
      generalize (πL δ ⟨fi, li, co⟩).line = li' at *
      go_upto_region 6 with fail
      go_region_with (go_at_call 37; refine (HSR.out _).mono ?_; rintro e w2 ⟨rfl, hk2⟩)
      all_goals
        have hK2 := hK.trans ((Kept.refl [] wr).drew.trans hk2)
        go_wp2
        go_roundg (L.length - (k + 1))
        case measure => omega
        case rel => exact ⟨k + 1, by omega, rfl, by go_num, hK2⟩
    · go_wp2
      go_ret
      exact ⟨rfl, hK⟩
theorem sameRows_nilBy (a1 a2 : Option Addr) (c1 c2 : Nat) (δ : Int) (w : World) :
    Calls Tryz.prog 20 #[.slice a1 0 c1, .slice a2 0 c2, .int .i64 δ] w fun e w' => e = .returned (.bool true) ∧ Kept [] w w' := by
  go_enter Tryz.func20, Tryz.ntmps20
  go_wp2
  refine wp_loop_rounds 1 ?_
  rw [rounds_succ]
  go_wp2
  go_ret
  exact ⟨rfl, Kept.refl _ _⟩

end Go.Proofs.YtcipkfhpcbddiaaGreat

/- Parted: what see says of the three texts; their rows. -/
namespace Go.Proofs.YtcipkfhpcbddiaaGreat
open Go.RowKit

/-- see, where reading says this. -/
theorem see_rd (b x : Nat) (T t U : ByteArray) (δ : Int) (o : Option Nat) (fs fs' : List (ByteArray × ByteArray)) (w : World) (hW : WorldAt w b x T o) (hV : SomeAt w x fs) (hx : x ≠ b) (ht : ¬ 1024 < t.size) (hp : putF fs ⟨#[109]⟩ t = (0, fs')) (h0 : findF fs' ⟨#[109]⟩ = 0) (hl : 0 < fs'.length) (hok : FilesOk fs')
    (hR : (readAll fs' 0).1 = fltTail U δ) :
    Calls Tryz.prog 18 #[.pointer (some ⟨b, 0, none⟩), .string t] w fun e w' => CoreSays b x T o fs' (rdM U).1.1 (lineAt U (rdM U).1.2 + δ) (colAt U (rdM U).1.2) (readAll fs' 0).2.2.sts w e w' := by
  refine see_core b x T t o fs fs' _ _ _ _ w hW hV hx ht hp (read_rec fs' hok 0).ok.len ?_
  intro w' hv
  refine (verify_any x 0 fs' ⟨#[109]⟩ w' hv h0 hl hok).mono ?_
  rintro e w'' ⟨hc, hK⟩
  refine ⟨?_, hK⟩
  rw [hR] at hc
  unfold fltTail at hc
  cases hr : ((rdM U).1.1 == 0) with
  | true =>
    simp only [hr, if_true] at hc ⊢
    rw [if_pos (by rfl)] at hc
    exact hc
  | false =>
    simp only [hr, Bool.false_eq_true, if_false] at hc ⊢
    exact hc

theorem put_only (fs : List (ByteArray × ByteArray)) (t : ByteArray) (h : fs = [] ∨ ∃ u, fs = [(⟨#[109]⟩, u)]) (ht : ¬ 1024 < t.size) : putF fs ⟨#[109]⟩ t = (0, [(⟨#[109]⟩, t)]) := by
  have hc : checkF ⟨#[109]⟩ t = 0 := by simp [checkF, mName_is, ht]
  rcases h with rfl | ⟨u, rfl⟩
  · simp [putF, hc, findF, findFrom]
  · simp [putF, hc, findF, findFrom]
theorem iName_is : isNameF ⟨#[105]⟩ = true := by decide +kernel
theorem im_ne : ((⟨#[109]⟩ : ByteArray).toList == (⟨#[105]⟩ : ByteArray).toList) = false ∧ ((⟨#[105]⟩ : ByteArray).toList == (⟨#[109]⟩ : ByteArray).toList) = false := by decide +kernel
theorem put_i (u T : ByteArray) (hT : T.size ≤ 1024) : putF [(⟨#[109]⟩, u)] ⟨#[105]⟩ T = (0, [(⟨#[109]⟩, u), (⟨#[105]⟩, T)]) := by
  have hc : checkF ⟨#[105]⟩ T = 0 := by
    unfold checkF
    rw [if_neg (by rw [iName_is]; simp), if_neg (by omega)]
  unfold putF
  rw [if_neg (by rw [hc]; simp)]
  have hf : findF [(⟨#[109]⟩, u)] ⟨#[105]⟩ = -1 := by
    simp only [findF, findFrom, im_ne.1]; simp
  rw [hf]
  simp
theorem put_mi (u T t : ByteArray) (ht : ¬ 1024 < t.size) : putF [(⟨#[109]⟩, u), (⟨#[105]⟩, T)] ⟨#[109]⟩ t = (0, [(⟨#[109]⟩, t), (⟨#[105]⟩, T)]) := by
  have hc : checkF ⟨#[109]⟩ t = 0 := by simp [checkF, mName_is, ht]
  simp [putF, hc, findF, findFrom]
theorem find_m (u : ByteArray) (r : List (ByteArray × ByteArray)) : findF ((⟨#[109]⟩, u) :: r) ⟨#[109]⟩ = 0 := by simp [findF, findFrom]
theorem find_i (u T : ByteArray) : findF [(⟨#[109]⟩, u), (⟨#[105]⟩, T)] ⟨#[105]⟩ = 1 := by
  simp only [findF, findFrom, im_ne.1]; simp
theorem files_one (t : ByteArray) (h : ¬ 1024 < t.size) : FilesOk [(⟨#[109]⟩, t)] := by
  rw [filesOk_all]; intro f hf; rw [List.mem_singleton.1 hf]; simp only; omega
theorem files_two (t T : ByteArray) (h : ¬ 1024 < t.size) (hT : T.size ≤ 1024) : FilesOk [(⟨#[109]⟩, t), (⟨#[105]⟩, T)] := by
  rw [filesOk_all]; intro f hf
  simp only [List.mem_cons, List.not_mem_nil, or_false] at hf
  rcases hf with rfl | rfl
  · simp only; omega
  · exact hT
theorem mok_two (t T : ByteArray) (h : ¬ 1024 < t.size) (hT : T.size ≤ 1024) : MOk 1 [(⟨#[109]⟩, t), (⟨#[105]⟩, T)] := ⟨Or.inl ⟨⟨0, by simp, find_m _ _⟩, by simp⟩, files_two t T h hT⟩
theorem mok_one (t : ByteArray) (h : ¬ 1024 < t.size) : MOk 0 [(⟨#[109]⟩, t)] := ⟨Or.inl ⟨⟨0, by simp, find_m _ _⟩, by simp⟩, files_one t h⟩

/-- Reading the text and the chunk. -/
theorem read_U (U : ByteArray) (hs : ¬ 1024 < U.size) (hi : holdsF U = false) : (readAll [(⟨#[109]⟩, U)] 0).1 = fltTail U 0 ∧ (readAll [(⟨#[109]⟩, U)] 0).2.2.sts = (rdM U).2.sts := by
  have hp := readAll_plain [(⟨#[109]⟩, U)] 0 (by omega) (by show U.size ≤ 1024; omega) (noInc_of U hi)
  rw [hp]
  refine ⟨?_, rfl⟩
  show fltOf ⟨#[109]⟩ U (rdM U).1 = _
  unfold fltOf fltTail plAt
  split
  · rfl
  · simp

theorem mapRw_id (L : List Rw) : L.map (mapRw (fun p => p)) = L := by
  have : mapRw (fun p => p) = id := rfl
  rw [this, List.map_id]
/-- The rows of the three texts. -/
theorem parted_rows (T c : ByteArray) (hT : Fine T) (hs : ¬ 1024 < (T ++ ⟨#[10]⟩ ++ c).size) (hi : holdsF (T ++ ⟨#[10]⟩ ++ c) = false) :
    ∃ M, rowsM (T ++ ⟨#[10]⟩ ++ c) = rowsM T ++ M ∧
      rowsF (mapSts (fun i => if i < (rdM T).2.sts.length then (fun p => p) else πL 1) (rdM (T ++ ⟨#[10]⟩ ++ c)).2.sts) = rowsM T ++ M.map (mapRw (πL 1)) ∧
      ∀ δ, rowsF (mapSts (fun i => if i < (rdM T).2.sts.length then πF else πL δ) (rdM (T ++ ⟨#[10]⟩ ++ c)).2.sts) = (rowsM T).map (mapRw πF) ++ M.map (mapRw (πL δ)) := by
  obtain ⟨m, hm⟩ := more_sts T c hT
  have gU := rdM_rec (T ++ ⟨#[10]⟩ ++ c) (by omega) hi
  have gT := hT.good
  rw [hm] at gU
  have key := fun π₁ π₂ h1 h2 => rows_map π₁ π₂ h1 h2 (rdM T).2.sts m gU.ok gU.prf gT.ok gT.prf
  obtain ⟨M, e1, e2⟩ := key (fun p => p) (πL 1) id_map (πL_map 1)
  refine ⟨M, ?_, ?_, ?_⟩
  · unfold rowsM; rw [hm]; exact e1
  · rw [hm, e2, mapRw_id]; rfl
  · intro δ
    obtain ⟨M', e3, e4⟩ := key πF (πL δ) πF_map (πL_map δ)
    have : M' = M := List.append_cancel_left (e3.symm.trans e1)
    subst this
    rw [hm]; exact e4

def adrO : Option Nat → Option Addr
  | none => none
  | some g => some ⟨g, 0, none⟩
theorem sl_eq {w : World} {o : Option Nat} {L : List Rw} (h : RowsAt w o L) : rowsSl o L.length = .slice (adrO o) L.length L.length := by
  cases o with
  | none => have hn : L = [] := h
            subst hn; rfl
  | some g => rfl

end Go.Proofs.YtcipkfhpcbddiaaGreat
