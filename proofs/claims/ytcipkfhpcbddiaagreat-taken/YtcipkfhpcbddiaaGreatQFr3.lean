import Derived.Test.YtcipkfhpcbddiaaGreatQFr2
/- Package frames: line. -/
namespace Go.Proofs.YtcipkfhpcbddiaaGreat
open Go.RowKit

set_option maxHeartbeats 2000000 in
set_option maxRecDepth 100000 in
theorem line_any (s : St) (ha hb : Hd) (w : World) (hv : View w ha s.symbols) (hsl : s.symbols.length ≤ 10000) (sz : SzOk s) :
    Calls Tryz.prog 57 #[stVal s ha hb] w fun e w' => e = .returned (.string (lineF s)) ∧ Kept [] w w' := by
  unfold stVal
  have hls := sz.label
  have hks := keyF_size s.kind
  have H0 : Hid (s.label ++ ⟨#[32]⟩ ++ keyF s.kind = lineTo s 0) := rfl
  obtain ⟨X, hX⟩ : ∃ X, X = w.alloc (.cells #[.int .i64 s.kind, .string s.label, .slice ha.ao s.symbols.length ha.cap, .slice hb.ao s.proof.length hb.cap, .string s.fin.file, .int .i64 s.fin.line, .int .i64 s.fin.col, .int .i64 s.til] 119) := ⟨_, rfl⟩
  have kX : Kept [] w X := by rw [hX]; exact (Kept.refl [] _).alloc _
  have BX : X.heap[w.heap.size]? = some (.cells #[.int .i64 s.kind, .string s.label, .slice ha.ao s.symbols.length ha.cap, .slice hb.ao s.proof.length hb.cap, .string s.fin.file, .int .i64 s.fin.line, .int .i64 s.fin.col, .int .i64 s.til] 119 (0, 0)) := by rw [hX]; exact heap_alloc_new _ _
  have u0 : X.cell? ⟨w.heap.size, 0, none⟩ = some (.int .i64 s.kind) := by rw [cell_of BX]; rfl
  have u1 : X.cell? ⟨w.heap.size, 1, none⟩ = some (.string s.label) := by rw [cell_of BX]; rfl
  have HX := (show Hid _ from hX.symm)
  clear hX
  go_enter Tryz.func57, Tryz.ntmps57
  go_upto_region 1 with fail
  rw [HX.out]
  go_quiet ((go_at_call 73; exact Calls.quiet_of_same (keyword_any _ _)))
  rw [H0.out]
  obtain ⟨wq, hwq⟩ : ∃ wq, wq = X.drewN nq := ⟨_, rfl⟩
  rw [← hwq]
  have kq : Kept [] w wq := by rw [hwq]; exact kX.drewN _
  have Bq : wq.heap[w.heap.size]? = some (.cells #[.int .i64 s.kind, .string s.label, .slice ha.ao s.symbols.length ha.cap, .slice hb.ao s.proof.length hb.cap, .string s.fin.file, .int .i64 s.fin.line, .int .i64 s.fin.col, .int .i64 s.til] 119 (0, 0)) := by rw [hwq]; exact ((Kept.refl [] X).drewN _).get BX (by simp)
  have v2 : wq.cell? ⟨w.heap.size, 2, none⟩ = some (.slice ha.ao s.symbols.length ha.cap) := by rw [cell_of Bq]; rfl
  have hvq := hv.still kq
  have hbz := lt_of_get Bq
  clear hwq u0 u1
  go_wp2
  go_loopg [3, 4] s.symbols.length (fun g tv i wr => ∃ k : Nat, k ≤ s.symbols.length ∧ g = s.symbols.length - k ∧ i = .int .i64 k ∧ tv = .string (lineTo s k) ∧ wr = wq)
  case atStart => exact ⟨0, by omega, by omega, rfl, rfl, rfl⟩
  case round =>
    obtain ⟨k, hk, hg, rfl, rfl, rfl⟩ := hrel
    by_cases hlt : k < s.symbols.length
    · have hsz := lineTo_size s sz k hk
      have hx := sz.syms _ (List.getElem_mem hlt)
      have HT := (show Hid _ from (lineTo_next s k hlt).symm)
      have hki : (k : Int) < s.symbols.length := by omega
      rcases hvq with hn | ⟨g, off, cur, t, e1, e2, e3, e4, e5⟩
      · rw [hn] at hlt; simp at hlt
      · have cx : wr.cell? ⟨g, off + k, none⟩ = some (.string s.symbols[k]) := by rw [cell_of e2]; exact e3 k _ (List.getElem?_eq_getElem hlt)
        rw [e1] at v2
        have hsn := lineTo_size s sz (k + 1) hlt
        clear e3
        generalize s.symbols[k] = y at *
        generalize lineTo s k = tx at *
        go_wp2
        go_roundg (s.symbols.length - (k + 1))
        case measure => omega
        case rel => exact ⟨k + 1, by omega, rfl, by go_num, congrArg Value.string HT.out, rfl⟩
    · have e : k = s.symbols.length := by omega
      subst e
      go_wp2
      go_ret
      exact ⟨rfl, kq⟩

end Go.Proofs.YtcipkfhpcbddiaaGreat
