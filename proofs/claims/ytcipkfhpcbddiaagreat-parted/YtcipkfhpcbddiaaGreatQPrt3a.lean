import Derived.Test.YtcipkfhpcbddiaaGreatQPrt2
/- Package metaproofkeep: parted, where the chunk has no fault. -/
namespace Go.Proofs.YtcipkfhpcbddiaaGreat
open Go.RowKit

theorem rws_head (R M : List Rw) (j : Nat) (v : Value) (h : (rwsV R)[j]? = some v) : (rwsV (R ++ M)).toArray[j]? = some v := by
  have hl := (List.getElem?_eq_some_iff.1 h).1
  unfold rwsV at h hl ⊢
  rw [List.flatMap_append]
  simp only [List.getElem?_toArray]
  rw [List.getElem?_append_left hl]; exact h
theorem rws_tail (R M : List Rw) (j : Nat) (v : Value) (h : (rwsV M)[j]? = some v) : (rwsV (R ++ M)).toArray[R.length * 6 + j]? = some v := by
  have hR := rwsV_len R
  have e : rwsV (R ++ M) = rwsV R ++ rwsV M := by unfold rwsV; exact List.flatMap_append
  rw [e]
  simp only [List.getElem?_toArray]
  rw [List.getElem?_append_right (by omega), hR, Nat.add_sub_cancel_left]; exact h

theorem row_rel (R M : List Rw) (δ : Int) (k : Nat) (h : k < (R ++ M).length) (h2 : k < (R.map (mapRw πF) ++ M.map (mapRw (πL δ))).length) : (R.map (mapRw πF) ++ M.map (mapRw (πL δ)))[k] = if k < R.length then mapRw πF (R ++ M)[k] else mapRw (πL δ) (R ++ M)[k] := by
  by_cases hk : k < R.length
  · rw [if_pos hk, List.getElem_append_left (by simpa using hk), List.getElem_append_left hk, List.getElem_map]
  · rw [if_neg hk, List.getElem_append_right (by simpa using hk), List.getElem_append_right (by omega), List.getElem_map]
    simp only [List.length_map]
theorem πF_none (l c : Int) : πF ⟨⟨#[]⟩, l, c⟩ = ⟨⟨#[]⟩, l, c⟩ := by unfold πF; exact if_pos (show ((⟨#[]⟩ : ByteArray).toList == []) = true by decide +kernel)
theorem πF_m (l c : Int) : πF ⟨⟨#[109]⟩, l, c⟩ = ⟨⟨#[105]⟩, l, c⟩ := by unfold πF; rw [if_neg (show ¬ ((⟨#[109]⟩ : ByteArray).toList == []) = true by decide +kernel)]
theorem πL_none (δ l c : Int) : πL δ ⟨⟨#[]⟩, l, c⟩ = ⟨⟨#[]⟩, l, c⟩ := by unfold πL; exact if_pos (show ((⟨#[]⟩ : ByteArray).toList == []) = true by decide +kernel)
theorem πL_m (δ l c : Int) : πL δ ⟨⟨#[109]⟩, l, c⟩ = ⟨⟨#[109]⟩, l + δ, c⟩ := by unfold πL; rw [if_neg (show ¬ ((⟨#[109]⟩ : ByteArray).toList == []) = true by decide +kernel)]
theorem rowNeq (s f : ByteArray) (v y l c : Int) (w : World) : (binOp .neq 59 (.agg #[.string s, .int .i64 v, .int .i64 y, .string f, .int .i64 l, .int .i64 c]) (.agg #[.string s, .int .i64 v, .int .i64 y, .string f, .int .i64 l, .int .i64 c])).run Tryz.prog w = .ok (.bool false) w := by
  rw [run_neq_struct, show (10000 : Nat) = 9997 + 3 from rfl, rowEq]; simp
attribute [local go_sem] rowNeq

set_option maxHeartbeats 4000000 in
set_option maxRecDepth 100000 in
theorem parted_goodL (b x : Nat) (T c U K I : ByteArray) (o : Option Nat) (fs : List (ByteArray × ByteArray)) (w : World) (hW : WorldAt w b x T o) (hV : SomeAt w x fs) (hx : x ≠ b) (hM : MOk 0 fs) (hT : Fine T) (hc : c.size ≤ 1073741824) (hh : holdsF c = false)
    (HUU : Hid (T ++ ⟨#[10]⟩ ++ c = U)) (HKK : Hid (T ++ ⟨#[10, 36, 40, 32, 97, 32, 36, 91, 32, 99, 111, 109, 109, 101, 110, 116, 32, 36, 46, 32, 36, 41, 10]⟩ ++ c = K)) (HII : Hid (⟨#[36, 91, 32, 105, 32, 36, 93, 32, 36, 91, 32, 109, 32, 36, 93, 32, 36, 91, 32, 105, 32, 36, 93, 10]⟩ ++ c = I)) (r ln cl : Int) (M : List Rw) (S : Hid (Sees b x T c U K I o r ln cl (rowsM T ++ M) (rowsM T ++ M.map (mapRw (πL 1))) ((rowsM T).map (mapRw πF) ++ M.map (mapRw (πL (1 - lineAt T T.size)))))) (hl : ¬ 1024 < U.size) (hr : (r == 0) = true) (hok : RwsOk (rowsM T ++ M)) (hk : 1024 < K.size) (hfile : Hid (∀ q ∈ rowsM T ++ M, q.at_.file = ⟨#[]⟩ ∨ q.at_.file = ⟨#[109]⟩)) :
    Calls Tryz.prog 9 #[.pointer (some ⟨b, 0, none⟩), .string c] w fun e w' => e = .returned (.bool true) ∧ Kept [x] w w' := by
  have hTs := hT.size
  have hbw := hW.lt
  have hxw := hV.lt
  obtain ⟨c0, c1, -⟩ := hW.cells
  have hlT := lt_of_sl hTs
  have hUs := S.out.su
  have hKs := S.out.sk
  have hIs := S.out.si
  have HSU := (show Hid _ from S.out.u hl fs w hM hW hV)
  have HLN := (show Hid _ from fun w' => lines_any T w' (by omega))
  obtain ⟨lT, HLT⟩ : ∃ lT, Hid (lineAt T T.size = lT) := ⟨_, rfl⟩
  rw [HLT.out] at S HLN hlT
  go_enter Tryz.func9, Tryz.ntmps9
  go_wp2_with (go_at_call 17; refine (kholds_any _ _ (by omega)).mono ?_; rintro e w9 ⟨rfl, hw9⟩; rw [hw9, hh])
  rw [HUU.out]
  refine Calls.mono HSU.out ?_
  rintro e w2 ⟨lU, hlU, os, rfl, hRs, hgs, hW2, hV2, hk2⟩
  have hRs := hRs hr
  rw [if_pos hr]
  rw [hlU] at hRs ⊢
  rw [sl_eq hRs]
  simp only [seenV]
  have hb2 := hW2.lt
  have hx2 := hV2.lt
  clear c0 c1 hlU
  obtain ⟨c0, c1, c2⟩ := hW2.cells
  rw [sl_eq hW2.rows] at c2
  have hNl := hok.len
  have HOK := (show Hid _ from hok)
  clear hok
  obtain ⟨AO, HAO⟩ : ∃ AO, Hid (adrO o = AO) := ⟨_, rfl⟩
  obtain ⟨AS, HAS⟩ : ∃ AS, Hid (adrO os = AS) := ⟨_, rfl⟩
  obtain ⟨n, Hn⟩ : ∃ n, Hid ((rowsM T).length = n) := ⟨_, rfl⟩
  obtain ⟨m, Hm⟩ : ∃ m, Hid (M.length = m) := ⟨_, rfl⟩
  have HNM : Hid ((rowsM T ++ M).length = n + m) := by show _ = _; rw [List.length_append, Hn.out, Hm.out]
  rw [HNM.out] at hNl ⊢
  rw [HAO.out, Hn.out] at c2
  rw [HAS.out]
  have HGS : Hid (∀ g, os = some g → x < g) := fun g hg => by have := hgs g hg; omega
  obtain ⟨SB, hSBd⟩ : ∃ SB : Array Value, SB = #[.slice AS (n + m) (n + m), .int .i64 0, .string ⟨#[]⟩, .int .i64 0, .int .i64 0, .int .i64 0] := ⟨_, rfl⟩
  obtain ⟨X, hX⟩ : ∃ X, X = w2.alloc (.cells #[.slice AS (n + m) (n + m), .int .i64 0, .string ⟨#[]⟩, .int .i64 0, .int .i64 0, .int .i64 0] 52) := ⟨_, rfl⟩
  have kX : Kept [] w2 X := by rw [hX]; exact (Kept.refl [] _).alloc _
  have PX : PIn w X b x w2.heap.size T o SB := ⟨hW2.still kX, by rw [hX, hSBd]; exact heap_alloc_new _ _, by omega, hk2.trans (kX.mono (by simp))⟩
  have hVX := hV2.kept kX (by simp)
  have hRX := hRs.still kX
  have HX := (show Hid _ from hX.symm)
  clear hX hRs hgs
  have HSK := (show Hid _ from see_long b x T K o _ X PX.W hVX hx hk (by omega))
  go_wp2_with fail
  rw [HX.out, HKK.out]
  refine Calls.mono HSK.out ?_
  rintro e w3 ⟨rfl, hW3, hV3, hk3⟩
  simp only [seenV]
  obtain ⟨X3, hX3⟩ : ∃ X3, X3 = w3.alloc (.cells #[.slice none 0 0, .int .i64 0, .string ⟨#[]⟩, .int .i64 0, .int .i64 0, .int .i64 3] 52) := ⟨_, rfl⟩
  have k3 : Kept [] w3 X3 := by rw [hX3]; exact (Kept.refl [] _).alloc _
  have hPI := (PX.step hx hk3).still k3
  have hV3x := hV3.kept k3 (by simp)
  have hRs3 := (hRX.kept hk3 (fun g hg => by have := HGS.out g hg; simp; omega)).still k3
  have HX3 := (show Hid _ from hX3.symm)
  clear hX3
  go_upto_region 23 with fail
  rw [HX3.out]
  go_cut [13] from 108 (fun s13 wc => s13 = .int .i64 0 ∧ PIn w wc b x w2.heap.size T o SB ∧ SomeAt wc x [(⟨#[109]⟩, U), (⟨#[105]⟩, T)] ∧ RowsAt wc os (rowsM T ++ M))
  case first =>
    obtain ⟨d0, d1, -⟩ := hPI.W.cells
    have hb3 := hPI.W.lt
    go_region_with (go_at_call 14; refine (vput_any x ⟨#[105]⟩ T [(⟨#[109]⟩, U)] _ (by exact hV3x.kept (Kept.refl [] _).drew (by simp)) (by decide) (by omega)).mono ?_; rintro e w4 ⟨rfl, hV4, -, hk4⟩)
    all_goals
      rw [put_i U T hTs] at hV4 ⊢
      have hP4 := (hPI.still (Kept.refl [] _).drew).step hx hk4
      go_wp2_with fail
      go_meet
      case rel => exact ⟨rfl, hP4, hV4, hRs3.kept ((Kept.refl [x] _).drew.trans hk4) (fun g hg => by have := HGS.out g hg; simp; omega)⟩
  case rest =>
    obtain ⟨rfl, hP4, hV4, hRs4⟩ := hcut
    obtain ⟨d0, d1, -⟩ := hP4.W.cells
    have hb4 := hP4.W.lt
    have hx4 := hV4.lt
    by_cases hI : 1024 < I.size
    · have HSL := (show Hid _ from see_long b x T I o _ wc hP4.W hV4 hx hI (by omega))
      go_wp2_with fail
      rw [HII.out]
      refine Calls.mono HSL.out ?_
      rintro e w5 ⟨rfl, hW5, hV5, hk5⟩
      simp only [seenV]
      have hb5 := hW5.lt
      go_wp2_with fail
      refine (back_any (N := 1) (by omega) b x T o _ _ (hW5.still ((Kept.refl [] _).alloc _)) (hV5.kept ((Kept.refl [] _).alloc _) (by simp)) hx (mok_two _ T hl hTs) hT).mono ?_
      rintro e w6 ⟨rfl, -, -, hk6⟩
      go_wp2
      go_ret
      exact ⟨rfl, ((hP4.kept.trans hk5).alloc _).trans hk6⟩
    · have SI := S.out.i hI _ wc hP4.W hV4
      rw [HLT.out] at SI
      have HSI := (show Hid _ from SI)
      clear SI
      go_wp2_with fail
      rw [HII.out]
      refine Calls.mono HSI.out ?_
      rintro e w5 ⟨l5, hl5, oi, rfl, hRi, hgi, hW5, hV5, hk5⟩
      have hRi := hRi hr
      rw [if_pos hr]
      rw [hl5] at hRi ⊢
      rw [sl_eq hRi]
      simp only [seenV]
      have HNI : Hid (((rowsM T).map (mapRw πF) ++ M.map (mapRw (πL (1 - lT)))).length = n + m) := by show _ = _; rw [List.length_append, List.length_map, List.length_map, Hn.out, Hm.out]
      rw [HNI.out]
      have hb5 := hW5.lt
      have hP5 := hP4.step hx hk5
      have hsb := hP5.sb
      rw [hSBd] at hsb
      have hRs5 := hRs4.kept hk5 (fun g hg => by have := HGS.out g hg; simp; omega)
      obtain ⟨AI, HAI⟩ : ∃ AI, Hid (adrO oi = AI) := ⟨_, rfl⟩
      rw [HAI.out]
      obtain ⟨X6, hX6⟩ : ∃ X6, X6 = w5.alloc (.cells #[.slice AI (n + m) (n + m), .int .i64 0, .string ⟨#[]⟩, .int .i64 0, .int .i64 0, .int .i64 0] 52) := ⟨_, rfl⟩
      have k6 : Kept [] w5 X6 := by rw [hX6]; exact (Kept.refl [] _).alloc _
      have b6 : X6.heap[w5.heap.size]? = some (.cells #[.slice AI (n + m) (n + m), .int .i64 0, .string ⟨#[]⟩, .int .i64 0, .int .i64 0, .int .i64 0] 52 (0, 0)) := by rw [hX6]; exact heap_alloc_new _ _
      have sb6 := k6.get hsb (by simp)
      obtain ⟨y0, y1, y2, y3, y4, y5⟩ := seen_cells sb6
      obtain ⟨z0, z1, z2, z3, z4, z5⟩ := seen_cells b6
      obtain ⟨f0, f1, -⟩ := (hW5.still k6).cells
      have hz6 := lt_of_get sb6
      have hz6' := lt_of_get b6
      have hb6 := (hW5.still k6).lt
      have HX6 := (show Hid _ from hX6.symm)
      have HM := (show Hid _ from fun w' => moved_zero ⟨#[]⟩ 0 0 (lT - 1) w')
      clear hX6 d0 d1
      go_upto_region 29 with fail
      rw [HX6.out]
      go_upto_region 34 with (go_at_call 22; refine (HLN.out _).mono ?_; rintro e w9 ⟨rfl, hw9⟩; rw [hw9])
      go_wp2_with fail
      refine Calls.mono (HM.out _) ?_
      rintro e w7 ⟨rfl, k7⟩
      have K67 := k6.trans k7
      have sb7 := k7.get sb6 (by simp)
      have b7 := k7.get b6 (by simp)
      have hRs7 := hRs5.still K67
      have hRi7 := hRi.still K67
      have hW7 := hW5.still K67
      have hV7 := hV5.kept K67 (by simp)
      have hKx7 : Kept [x] w w7 := (hP4.kept.trans hk5).trans (K67.mono (by simp))
      clear y0 y1 y2 y3 y4 y5 z0 z1 z2 z3 z4 z5 f0 f1 hb6 hz6 hz6' sb6 b6 hsb hRs5 hRi hRs4
      obtain ⟨y0, -, -, -, -, y5⟩ := seen_cells sb7
      obtain ⟨z0, -, -, -, -, z5⟩ := seen_cells b7
      have hz7 := lt_of_get sb7
      have hz7' := lt_of_get b7
      go_wp2_with fail
      go_loopg [17, 18] (n + m) (fun g iv _ wr => ∃ k : Nat, k ≤ n + m ∧ g = n + m - k ∧ iv = .int .i64 k ∧ Kept [] w7 wr)
      case atStart => exact ⟨0, by omega, by omega, rfl, Kept.refl _ _⟩
      case round =>
        obtain ⟨k, hk9, hg9, rfl, hK9⟩ := hrel
        have sb9 := hK9.get sb7 (by simp)
        have b9 := hK9.get b7 (by simp)
        clear y0 y5 z0 z5
        obtain ⟨y0, -, -, -, -, -⟩ := seen_cells sb9
        obtain ⟨z0, -, -, -, -, -⟩ := seen_cells b9
        have hz9 := lt_of_get sb9
        have hz9' := lt_of_get b9
        by_cases hlt : k < n + m
        · have hkl : k < (rowsM T ++ M).length := by rw [HNM.out]; exact hlt
          have hki : k < ((rowsM T).map (mapRw πF) ++ M.map (mapRw (πL (1 - lT)))).length := by rw [HNI.out]; exact hlt
          cases os with
          | none => have he : rowsM T ++ M = [] := hRs7
                    rw [he] at hkl; simp at hkl
          | some gs =>
            cases oi with
            | none => have he : (rowsM T).map (mapRw πF) ++ M.map (mapRw (πL (1 - lT))) = [] := hRi7
                      rw [he] at hki; simp at hki
            | some gi =>
              have eAS : AS = some ⟨gs, 0, none⟩ := HAS.out.symm
              have eAI : AI = some ⟨gi, 0, none⟩ := HAI.out.symm
              subst eAS eAI
              obtain ⟨a0, a1, a2, a3, a4, a5⟩ := rw_at (hK9.get hRs7.2 (by simp)) (fun j v hj => by simpa using hj) k hkl
              obtain ⟨b0, b1, b2, b3, b4, b5⟩ := rw_at (hK9.get hRi7.2 (by simp)) (fun j v hj => by simpa using hj) k hki
              have hgs9 := lt_of_get (hK9.get hRs7.2 (by simp))
              have hgi9 := lt_of_get (hK9.get hRi7.2 (by simp))
              have hqf := hfile.out _ (List.getElem_mem hkl)
              have hql := HOK.out.line _ (List.getElem_mem hkl)
              rw [row_rel (rowsM T) M (1 - lT) k hkl hki] at b0 b1 b2 b3 b4 b5
              rw [Hn.out] at b0 b1 b2 b3 b4 b5
              generalize (rowsM T ++ M)[k] = q at *
              obtain ⟨la, ve, wy, ⟨fi, li, co⟩⟩ := q
              simp only [LnOk] at hql hqf a0 a1 a2 a3 a4 a5
              have hkI : (k : Int) < ((n + m : Nat) : Int) := by omega
              by_cases hkn : k < n
              · have hkn1 : (k : Int) < (n : Int) := by omega
                rw [if_pos hkn] at b0 b1 b2 b3 b4 b5
                rcases hqf with rfl | rfl
                · simp only [mapRw, πF_none] at b0 b1 b2 b3 b4 b5
                  go_upto_region 48 with fail
                  go_region
                  all_goals
                    go_wp2
                    go_roundg (n + m - (k + 1))
                    case measure => omega
                    case rel => exact ⟨k + 1, by omega, rfl, by go_num, by first | exact (hK9.alloc _).drew | exact hK9.alloc _⟩
                · simp only [mapRw, πF_m] at b0 b1 b2 b3 b4 b5
                  go_upto_region 48 with fail
                  go_region
                  all_goals
                    go_wp2
                    go_roundg (n + m - (k + 1))
                    case measure => omega
                    case rel => exact ⟨k + 1, by omega, rfl, by go_num, by first | exact (hK9.alloc _).drew | exact hK9.alloc _⟩
              · have hkn1 : ¬ (k : Int) < (n : Int) := by omega
                have hkn2 : (k : Int) ≥ (n : Int) := by omega
                rw [if_neg hkn] at b0 b1 b2 b3 b4 b5
                rcases hqf with rfl | rfl
                · simp only [mapRw, πL_none] at b0 b1 b2 b3 b4 b5
                  go_upto_region 48 with fail
                  go_region
                  all_goals
                    go_wp2
                    go_roundg (n + m - (k + 1))
                    case measure => omega
                    case rel => exact ⟨k + 1, by omega, rfl, by go_num, by first | exact (hK9.alloc _).drew | exact hK9.alloc _⟩
                · simp only [mapRw, πL_m] at b0 b1 b2 b3 b4 b5
                  have hli : li + (1 - lT) + (lT - 1) = li := by omega
                  have hwl : IntKind.i64.wrap (li + (1 - lT) + (lT - 1)) = li := by rw [IntKind.wrap_i64]; omega
                  go_upto_region 48 with fail
                  go_region
                  all_goals
                    go_wp2
                    go_roundg (n + m - (k + 1))
                    case measure => omega
                    case rel => exact ⟨k + 1, by omega, rfl, by go_num, by first | exact (hK9.alloc _).drew | exact hK9.alloc _⟩
        · go_wp2_with fail
          refine (back_any (N := 1) (by omega) b x T o _ _ (hW7.still hK9) (hV7.kept hK9 (by simp)) hx (mok_two _ T hI hTs) hT).mono ?_
          rintro e w8 ⟨rfl, -, -, hk8⟩
          go_wp2
          go_ret
          exact ⟨rfl, (hKx7.trans (hK9.mono (by simp))).trans hk8⟩

end Go.Proofs.YtcipkfhpcbddiaaGreat
