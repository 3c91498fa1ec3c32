import Derived.Test.YtcipkfhpcbddiaaGreatQFr1
/- Package frames: line, variablesOf: the walks. -/
namespace Go.Proofs.YtcipkfhpcbddiaaGreat
open Go.RowKit

set_option maxHeartbeats 2000000 in
set_option maxRecDepth 100000 in
theorem variablesOf_any (b o : Nat) (l : List St) (H : Nat → Hd) (hs : List Nat) (hh : Hd) (w : World) (h : RecAt w b o l H) (ok : RecOk l) (hOH : Owns w hh (rowN hs)) (hlen : hs.length ≤ 10000) (hlt0 : ∀ x ∈ hs, x < l.length) :
    Calls Tryz.prog 71 #[.pointer (some ⟨b, o, none⟩), .slice hh.ao hs.length hh.cap] w fun e w' => ∃ hd : Hd, e = .returned (.slice hd.ao (varsOfF l hs).length hd.cap) ∧ Owns w' hd (rowS (varsOfF l hs)) ∧ (∀ x, hd.blk = some x → w.heap.size ≤ x) ∧ Kept [] w w' := by
  obtain ⟨i0, hi, hz0, hz1, hz2⟩ := info_parts infoS
  have hll := ok.len
  have HE : Hid (varsTo l hs hs.length = varsOfF l hs) := by show _ = _; unfold varsTo varsOfF; rw [List.take_length]
  rw [← HE.out]
  clear HE
  obtain ⟨AO, HAO⟩ : ∃ AO, Hid (hh.ao = AO) := ⟨_, rfl⟩
  rw [HAO.out]
  go_enter Tryz.func71, Tryz.ntmps71
  go_wp2
  go_loopg [5, 6] hs.length (fun gk sv i wr => ∃ (k : Nat) (hd : Hd), k ≤ hs.length ∧ gk = hs.length - k ∧ i = .int .i64 k ∧ sv = .slice hd.ao (varsTo l hs k).length hd.cap ∧ Owns wr hd (rowS (varsTo l hs k)) ∧ (∀ x, hd.blk = some x → w.heap.size ≤ x) ∧ Kept [] w wr)
  case atStart => exact ⟨0, ⟨none, 0⟩, by omega, by omega, rfl, rfl, World.ownsRow_nil _ _ _ _, by intro x hx; simp [Hd.blk] at hx, Kept.refl _ _⟩
  case round =>
    obtain ⟨k, hd, hk, hg, rfl, rfl, hO, hN, hK⟩ := hrel
    have hr := h.still hK
    have hal := varsTo_len l hs k
    by_cases hlt : k < hs.length
    · have hnl := hlt0 hs[k] (List.getElem_mem hlt)
      have hOHr : Owns wr hh (rowN hs) := hOH.moved (fun x hx => hK.block x (hOH.lt hx) (by simp))
      rcases hOHr.ways with ⟨_, h0, _⟩ | ⟨gh, curh, eh, eh2, eh3, -⟩
      · have : hs.length = 0 := h0
        omega
      have ch := hOHr.cell eh k (.int .i64 hs[k]) (nums_at hs k hlt)
      have hAO : AO = some ⟨gh, 0, none⟩ := by rw [← HAO.out]; exact eh
      subst hAO
      have hki : (k : Int) < hs.length := by omega
      have HY := (show Hid _ from varsTo_yes l hs k hlt hnl)
      have HN0 := (show Hid _ from varsTo_no l hs k hlt hnl)
      have hsl := ok.syms hs[k] hnl
      clear eh eh2 eh3 hOHr HAO
      generalize hs[k] = q at *
      have VA := variable_any l[q] (H (10 + 2 * q)) (H (11 + 2 * q))
      unfold stVal at VA
      have HVA := (show Hid _ from VA)
      clear VA
      go_upto_region 6 with (go_at_call 53; refine (statement_any b o q l H _ (by exact hr) hnl).mono ?_; rintro e w3 ⟨rfl, hk3⟩; unfold stVal)
      obtain ⟨W4, hW4⟩ : ∃ W4, W4 = w3.alloc (.cells #[.int .i64 l[q].kind, .string l[q].label, .slice (H (10 + 2 * q)).ao l[q].symbols.length (H (10 + 2 * q)).cap, .slice (H (11 + 2 * q)).ao l[q].proof.length (H (11 + 2 * q)).cap, .string l[q].fin.file, .int .i64 l[q].fin.line, .int .i64 l[q].fin.col, .int .i64 l[q].til] 119) := ⟨_, rfl⟩
      have hk4 : Kept [] wr W4 := by rw [hW4]; exact hk3.alloc _
      have B4 : W4.heap[w3.heap.size]? = some (.cells #[.int .i64 l[q].kind, .string l[q].label, .slice (H (10 + 2 * q)).ao l[q].symbols.length (H (10 + 2 * q)).cap, .slice (H (11 + 2 * q)).ao l[q].proof.length (H (11 + 2 * q)).cap, .string l[q].fin.file, .int .i64 l[q].fin.line, .int .i64 l[q].fin.col, .int .i64 l[q].til] 119 (0, 0)) := by rw [hW4]; exact heap_alloc_new _ _
      rw [← hW4]
      clear hW4
      have u0 : W4.cell? ⟨w3.heap.size, 0, none⟩ = some (.int .i64 l[q].kind) := by rw [cell_of B4]; rfl
      have u1 : W4.cell? ⟨w3.heap.size, 1, none⟩ = some (.string l[q].label) := by rw [cell_of B4]; rfl
      have u2 : W4.cell? ⟨w3.heap.size, 2, none⟩ = some (.slice (H (10 + 2 * q)).ao l[q].symbols.length (H (10 + 2 * q)).cap) := by rw [cell_of B4]; rfl
      have u3 : W4.cell? ⟨w3.heap.size, 3, none⟩ = some (.slice (H (11 + 2 * q)).ao l[q].proof.length (H (11 + 2 * q)).cap) := by rw [cell_of B4]; rfl
      have u4 : W4.cell? ⟨w3.heap.size, 4, none⟩ = some (.string l[q].fin.file) := by rw [cell_of B4]; rfl
      have u5 : W4.cell? ⟨w3.heap.size, 5, none⟩ = some (.int .i64 l[q].fin.line) := by rw [cell_of B4]; rfl
      have u6 : W4.cell? ⟨w3.heap.size, 6, none⟩ = some (.int .i64 l[q].fin.col) := by rw [cell_of B4]; rfl
      have u7 : W4.cell? ⟨w3.heap.size, 7, none⟩ = some (.int .i64 l[q].til) := by rw [cell_of B4]; rfl
      have hr4 := hr.still hk4
      have hO4 : Owns W4 hd (rowS (varsTo l hs k)) := hO.moved (fun x hx => hk4.block x (hO.lt hx) (by simp))
      have hV4 := (hr4.sts.syms q l[q] (List.getElem?_eq_getElem hnl)).view
      have hK4 := hK.trans hk4
      cases h2 : (l[q].kind == 2)
      · have HT := (show Hid _ from HN0.out h2)
        clear HY HN0
        go_wp2
        go_roundg (hs.length - (k + 1))
        case measure => omega
        case rel => exact ⟨k + 1, hd, by omega, rfl, by go_num, by rw [HT.out], by rw [HT.out]; exact hO4, hN, hK4⟩
      · have HT := (show Hid _ from HY.out h2)
        clear HY HN0
        go_wp2_with (first | (go_at_call 89; refine (HVA.out _ (by exact hV4) (by omega)).mono ?_; rintro e w5 ⟨rfl, k5⟩; have hO5 := hO4.moved (fun x hx => (k5.alloc (.cells #[.string (variableF l[q])] 9)).block x (hO4.lt hx) (by simp))) | (at_builtin; refine wpList_append_row _ rfl (.tmp 23) (.tmp 26) 22 rfl i0 (.string ⟨#[]⟩) 16 hd (rowS (varsTo l hs k)) Tryz.underlying22 hi hz0 hz1 hz2 rfl Nat.one_pos rfl (by exact hO5) ⟨_, 0, none⟩ 1 1 [.string (variableF l[q])] rfl rfl ?d1 ?d2 Nat.one_pos ?d3 ?d4 ?_))
        case d1 => intro j u hj; match j, hj with | 0, hj => simp at hj; subst hj; simp [Addr.add]
        case d2 => intro u hu; simp at hu; subst hu; rfl
        case d3 => simp only [rowS]; unfold maxLen; omega
        case d4 => simp only [rowS]; omega
        intro g6 cap6 w6 hw6 hgr6 hfresh6
        rw [rowS_snoc (varsTo l hs k) (variableF l[q]), ← HT.out] at hw6
        have hK5 := (hK4.trans k5).alloc (.cells #[.string (variableF l[q])] 9)
        have hK6 := hK5.grown hgr6 hN
        have hg6 : w.heap.size ≤ g6 := by
          rcases hfresh6 with e | e
          · exact hN g6 e
          · have := hK5.size; simp at e this; omega
        have hEl : Hid ((rowS (varsTo l hs k)).n + 1 = (varsTo l hs (k + 1)).length) := by show _ = _; rw [HT.out]; simp [rowS]
        rw [hEl.out]
        clear hgr6 hfresh6 hO5
        go_wp2
        go_roundg (hs.length - (k + 1))
        case measure => omega
        case rel => exact ⟨k + 1, ⟨some ⟨g6, 0, none⟩, cap6⟩, by omega, rfl, by go_num, rfl, hw6, by intro x hx; simp [Hd.blk] at hx; omega, hK6⟩
    · have e : k = hs.length := by omega
      subst e
      go_wp2
      go_ret
      exact ⟨hd, rfl, hO, hN, hK⟩

end Go.Proofs.YtcipkfhpcbddiaaGreat
