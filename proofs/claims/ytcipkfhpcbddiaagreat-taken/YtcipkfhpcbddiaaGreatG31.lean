/- Our texts: Tkn2. -/
import Derived.Deep.RegionHeld3
import Derived.Test.YtcipkfhpcbddiaaGreatG23
import Derived.Test.YtcipkfhpcbddiaaGreatG28
import Derived.Test.YtcipkfhpcbddiaaGreatG29
import Derived.Test.YtcipkfhpcbddiaaGreatG30
/- Package metaproofkeep: taken. -/
namespace Go.Proofs.YtcipkfhpcbddiaaGreat
open Go.RowKit

theorem tk_stored {w : World} {r : Nat} {b0 b1 b2 b3 b4 b5 : Value} (h : w.heap[r]? = some (.cells #[b0, b1, b2, b3, b4, b5] 52 (0, 0))) (a0 a1 a2 a3 a4 a5 : Value) :
    ((((((w.setCell ⟨r, 0, none⟩ a0).setCell ⟨r, 1, none⟩ a1).setCell ⟨r, 2, none⟩ a2).setCell ⟨r, 3, none⟩ a3).setCell ⟨r, 4, none⟩ a4).setCell ⟨r, 5, none⟩ a5).heap[r]? = some (.cells #[a0, a1, a2, a3, a4, a5] 52 (0, 0)) := by
  rw [block_setCell (block_setCell (block_setCell (block_setCell (block_setCell (block_setCell h 0 a0) 1 a1) 2 a2) 3 a3) 4 a4) 5 a5]
  rfl
theorem tk_place {w : World} {r : Nat} {a0 a1 a2 : Value} (h : w.heap[r]? = some (.cells #[a0, a1, a2] 39 (0, 0))) :
    w.cell? ⟨r, 0, none⟩ = some a0 ∧ w.cell? ⟨r, 1, none⟩ = some a1 ∧ w.cell? ⟨r, 2, none⟩ = some a2 := by
  refine ⟨?_, ?_, ?_⟩ <;> (rw [cell_of h]; rfl)
theorem tk_build (w : World) (n : ByteArray) (l : Int) : (Instr.build 39 #[(0, .string n), (1, .int .i64 l)]).run Tryz.prog w = .ok (.agg #[.string n, .int .i64 l, .int .i64 0]) w :=
  run_build w 39 _ _ (by kernel_rfl)
attribute [local go_sem] tk_build

def cellsS (l : List ByteArray) : Array Value := (strs l).toArray
theorem cells_at {w : World} {g : Nat} {l : List ByteArray} (h : w.heap[g]? = some (.cells (cellsS l) 9 (0, 0))) (k : Nat) (x : ByteArray) (hx : l[k]? = some x) : w.cell? ⟨g, k, none⟩ = some (.string x) := by
  rw [cell_of h]; simp [cellsS, strs, hx]

/-- The last part of taken: five texts. -/
structure TkIn (w0 w : World) (b x : Nat) (T : ByteArray) (o : Option Nat) (sb nb P : Nat) (lab c : ByteArray) (LL : Int) : Prop where
  W : WorldAt w b x T o
  V : ∃ fs, SomeAt w x fs ∧ MOk 0 fs
  s : w.heap[sb]? = some (.cells (cellsS tkS) 9 (0, 0))
  n : w.heap[nb]? = some (.cells (cellsS (tkN lab c)) 9 (0, 0))
  p : ∃ cc : Int, w.heap[P]? = some (.cells #[.string ⟨#[109]⟩, .int .i64 LL, .int .i64 cc] 39 (0, 0))
  kept : Kept [x] w0 w
  far : sb ≠ x ∧ nb ≠ x ∧ P ≠ x ∧ sb ≠ P ∧ nb ≠ P ∧ b ≠ P ∧ w0.heap.size ≤ P ∧ ∀ g, o = some g → g ≠ P

/-- What see says of such a text. -/
theorem tk_see (b x : Nat) (T s n U : ByteArray) (o : Option Nat) (w : World) (hW : WorldAt w b x T o) (hV : ∃ fs, SomeAt w x fs ∧ MOk 0 fs) (hx : x ≠ b) (h : TkOk T s n U) (hsz : U.size ≤ 100000) (LL : Int) (hLL : lineAt T T.size - 1 + 2 = LL) :
    ∃ (rr : Int) (ff : ByteArray) (ll cc ee : Int),
      Hid (∀ wx : World, Kept [] w wx → Calls Tryz.prog 18 #[.pointer (some ⟨b, 0, none⟩), .string U] wx fun e w' =>
        e = .returned (.tuple #[.agg #[.slice none 0 0, .int .i64 rr, .string ff, .int .i64 ll, .int .i64 cc, .int .i64 ee], .bool true]) ∧ WorldAt w' b x T o ∧ (∃ fs', SomeAt w' x fs' ∧ MOk 0 fs') ∧ Kept [x] wx w') ∧
      Hid (ee = 3 ∨ (ee = 6 ∧ rr = 13 ∧ ff = ⟨#[109]⟩ ∧ ll = LL ∧ cc = (s.size : Int) + 1)) := by
  obtain ⟨fs, hV, hM⟩ := hV
  by_cases hl : 1024 < U.size
  · refine ⟨0, ⟨#[]⟩, 0, 0, 3, fun wx h1 => ?_, Or.inl rfl⟩
    refine (see_long b x T U o fs wx (hW.still h1) (hV.kept h1 (by simp)) hx hl (by omega)).mono ?_
    rintro e w' ⟨rfl, a1, a2, a3⟩
    exact ⟨rfl, a1, ⟨fs, a2, hM⟩, a3⟩
  · refine ⟨13, ⟨#[109]⟩, LL, (s.size : Int) + 1, 6, fun wx h1 => ?_, Or.inr ⟨rfl, rfl, rfl, rfl, rfl⟩⟩
    refine (see_short (N := 0) (by omega) b x T U o fs wx (hW.still h1) (hV.kept h1 (by simp)) hx hl hM h.inc).mono ?_
    rintro e w' ⟨o', rfl, -, -, a1, a2, a3⟩
    refine ⟨?_, a1, a2, a3⟩
    unfold seeV seenV
    rw [if_neg (by rw [h.rule]; decide), h.rule, h.line, h.col, ← hLL]
    rw [show lineAt T T.size - 1 + 2 = lineAt T T.size + 1 by omega]

theorem TkIn.still {w0 w w' : World} {b x : Nat} {T : ByteArray} {o : Option Nat} {sb nb P : Nat} {lab c : ByteArray} {LL : Int} (h : TkIn w0 w b x T o sb nb P lab c LL) (k : Kept [] w w') : TkIn w0 w' b x T o sb nb P lab c LL := by
  obtain ⟨fs, v1, v2⟩ := h.V
  obtain ⟨cc, p⟩ := h.p
  exact ⟨h.W.still k, ⟨fs, v1.kept k (by simp), v2⟩, k.get h.s (by simp), k.get h.n (by simp), ⟨cc, k.get p (by simp)⟩, h.kept.trans (k.mono (by simp)), h.far⟩
theorem TkIn.seen {w0 w w' : World} {b x : Nat} {T : ByteArray} {o : Option Nat} {sb nb P : Nat} {lab c : ByteArray} {LL : Int} (h : TkIn w0 w b x T o sb nb P lab c LL) (k : Kept [x] w w') (hW : WorldAt w' b x T o) (hV : ∃ fs, SomeAt w' x fs ∧ MOk 0 fs) : TkIn w0 w' b x T o sb nb P lab c LL := by
  obtain ⟨cc, p⟩ := h.p
  obtain ⟨f1, f2, f3, f4⟩ := h.far
  exact ⟨hW, hV, k.get h.s (by simpa using f1), k.get h.n (by simpa using f2), ⟨cc, k.get p (by simpa using f3)⟩, h.kept.trans k, f1, f2, f3, f4⟩
theorem TkIn.col {w0 w : World} {b x : Nat} {T : ByteArray} {o : Option Nat} {sb nb P : Nat} {lab c : ByteArray} {LL : Int} (h : TkIn w0 w b x T o sb nb P lab c LL) (cc : Int) :
    TkIn w0 (w.setCell ⟨P, 2, none⟩ (.int .i64 cc)) b x T o sb nb P lab c LL ∧ (w.setCell ⟨P, 2, none⟩ (.int .i64 cc)).heap[P]? = some (.cells #[.string ⟨#[109]⟩, .int .i64 LL, .int .i64 cc] 39 (0, 0)) := by
  obtain ⟨fs, v1, v2⟩ := h.V
  obtain ⟨c1, p⟩ := h.p
  obtain ⟨f1, f2, f3, f4, f5, f6, f7, f8⟩ := h.far
  have k : Kept [P] w (w.setCell ⟨P, 2, none⟩ (.int .i64 cc)) := (Kept.refl [P] w).setCell (Or.inl (by simp)) _
  have hp : (w.setCell ⟨P, 2, none⟩ (.int .i64 cc)).heap[P]? = some (.cells #[.string ⟨#[109]⟩, .int .i64 LL, .int .i64 cc] 39 (0, 0)) := by rw [block_setCell p]; rfl
  exact ⟨⟨h.W.kept k (by simpa using f6) (fun g hg => by simpa using f8 g hg), ⟨fs, v1.kept k (by simpa using f3.symm), v2⟩, k.get h.s (by simpa using f4), k.get h.n (by simpa using f5), ⟨cc, hp⟩, h.kept.setCell (Or.inr f7) _, f1, f2, f3, f4, f5, f6, f7, f8⟩, hp⟩

set_option maxHeartbeats 4000000 in
set_option maxRecDepth 100000 in
theorem taken_some (b x n0 : Nat) (T : ByteArray) (o : Option Nat) (a : Int) (fs2 : List (ByteArray × ByteArray)) (H : Nat → Hd) (g gr : Nat) (w : World) (hW : WorldAt w b x T o) (hx : x ≠ b) (hT : Fine T) (ha : -9223372036854775808 ≤ a ∧ a ≤ 9223372036854775807)
    (hR : RptAt w x fs2 (rdM T).2.sts H g) (hM2 : MOk 0 fs2) (ho : o = some gr) (hn0 : Hid ((rowsM T).length = n0)) (hpos : 0 < n0) :
    Calls Tryz.prog 12 #[.pointer (some ⟨b, 0, none⟩), .int .i64 a] w fun e w' => e = .returned (.bool true) ∧ Kept [x] w w' := by
  have hTs := hT.size
  have hbw := hW.lt
  have hxw := hR.anyR.lt
  have ok := (rdM_rec T hT.size hT.inc).ok
  have hz := (rdM_nmS T hT.size).szs
  obtain ⟨c0, c1, c2⟩ := hW.cells
  have hrl := hT.rws.len
  rw [hn0.out] at hrl
  have hRA : RowsAt w (some gr) (rowsM T) := ho ▸ hW.rows
  rw [sl_eq hW.rows, ho, hn0.out] at c2
  simp only [adrO] at c2
  have hgr := hRA.1
  have hgrw : gr < w.heap.size := lt_of_get hRA.2
  have HCK : Hid (∀ k, (hk : k < n0) → w.cell? ⟨gr, k * 6, none⟩ = some (.string ((rowsM T)[k]'(by rw [hn0.out]; exact hk)).label)) := fun k hk => (rw_at hRA.2 (fun j v hj => by simpa using hj) k (by rw [hn0.out]; exact hk)).1
  have hpi : ((n0 : Int) == 0) = false := by rw [beq_eq_false_iff_ne]; omega
  go_enter Tryz.func12, Tryz.ntmps12
  go_upto_region 3 with fail
  go_cut [5] from 23 to 36 (fun s5 wc => ∃ k, ∃ hk : k < n0, s5 = .string ((rowsM T)[k]'(by rw [hn0.out]; exact hk)).label ∧ Kept [] w wc)
  case first =>
    go_region_with (go_at_call 25; refine (pick_any a n0 _ ha (by omega)).mono ?_; rintro e w1 ⟨⟨k, rfl, hk⟩, hw1⟩; rw [hw1]; have ck := HCK.out k hk; have hki : (k : Int) < (n0 : Int) := by omega)
    all_goals
      go_wp2_with fail
      go_meet
      case rel => exact ⟨k, hk, rfl, (Kept.refl [] _).drew⟩
  case rest =>
    obtain ⟨k, hk, rfl, hKc⟩ := hcut
    obtain ⟨n, c, rr, RT⟩ := rowT_of T hT _ (List.getElem_mem (show k < (rowsM T).length by rw [hn0.out]; exact hk))
    generalize ((rowsM T)[k]'(by rw [hn0.out]; exact hk)).label = lab at *
    clear c0 c1 c2
    have hWc := hW.still hKc
    have hRc := hR.still hKc
    obtain ⟨c0, c1, c2⟩ := hWc.cells
    have hbc := hWc.lt
    have HFR : Hid (∀ lb w', Kept [] wc w' → Calls Tryz.prog 28 #[.pointer (some ⟨x, 0, none⟩), .string lb] w' fun e w'' => FrameSays (rdM T).2.sts lb w' e w'') := fun lb w' q => vframe_any x fs2 _ H g lb w' (hRc.still q) ok hz
    have HFM := (show Hid _ from form_is RT.fr)
    have hLe := lines_len (rdM T).2.sts n
    have hhl := hyps_len (rdM T).2.sts n
    have hll := ok.len
    have hpl : (pairsF (rdM T).2.sts n).length ≤ 100000000 := prs_len _ _ (by have := fvars_len (rdM T).2.sts (hypsF (rdM T).2.sts n); omega)
    have HFO := (show Hid _ from form_core b x lab (linesF (rdM T).2.sts n) wc c0 hbc (by omega) (by omega)
      (by intro w' q
          refine (HFR.out lab w' q).mono ?_
          rintro e w'' ⟨k1, h2⟩
          rw [RT.find] at h2
          obtain ⟨g', h3, h4, h5⟩ := h2
          exact ⟨g', h3, h4, h5, k1⟩)
      (fun k hk => lines_ok RT.fr lab RT.own k hk) (by show 0 < _; rw [HFM.out.2, RT.syms]; simp))
    go_wp2_with fail
    refine Calls.mono HFO.out ?_
    rintro e w4 ⟨F, gl, es, hgd, Hf, rfl, hFm, -, -, k4⟩
    have hyl := HFM.out.1
    have hgo := HFM.out.2
    rw [RT.syms] at hgo
    have HHY : Hid (∀ x ∈ (formF (linesF (rdM T).2.sts n)).hyps, findAF (rdM T).2.sts x = none) := by rw [hyl]; exact RT.hyp
    have hyb : (formF (linesF (rdM T).2.sts n)).hyps.length ≤ 10000 := by rw [hyl, List.length_map]; omega
    have f2 := hFm.bag.cell 2
    have f9 := hFm.bag.cell 9
    simp only [fmL, List.getElem?_cons_succ, List.getElem?_cons_zero] at f2 f9
    have hOh := hFm.bag.own 0
    have hOh : Owns w4 (Hf 0) (rowS (formF (linesF (rdM T).2.sts n)).hyps) := hOh
    have hgv := hFm.gl.1
    have hFw := hFm.bag.lt
    rw [hgo] at hgv f9
    generalize (formF (linesF (rdM T).2.sts n)).hyps = hy at *
    obtain ⟨gg, goff, gcur, gty, hge, hgb, hgc, hgcap⟩ : ∃ gg off cur t, hgd.ao = some ⟨gg, off, none⟩ ∧ w4.heap[gg]? = some (.cells cur t (0, 0)) ∧ (∀ j x, (c :: rr)[j]? = some x → cur[off + j]? = some (.string x)) ∧ (c :: rr).length ≤ hgd.cap := by
      rcases hgv with h | ⟨g1, o1, cu, t, e1, e2, e3, e4, e5⟩
      · cases h
      · exact ⟨g1, o1, cu, t, e1, e2, e3, e4⟩
    rw [hge] at f9
    have hg0 := hgc 0 c rfl
    rw [Nat.add_zero] at hg0
    have HRT := (show Hid _ from RT)
    have hx4 : x < w4.heap.size := Nat.lt_of_lt_of_le hxw (hKc.trans k4).size
    obtain ⟨ng, HNG⟩ : ∃ ng, Hid ((c :: rr).length = ng) := ⟨_, rfl⟩
    have hngp : 0 < ng := by rw [← HNG.out]; simp
    rw [HNG.out] at f9
    clear RT hFm hgv hgo hyl HFO HFM hgc hge hLe hpl
    go_wp2
    go_loopg [8] hy.length (fun gk i wr => ∃ (k : Nat), k ≤ hy.length ∧ gk = hy.length - k ∧ i = .int .i64 k ∧ Kept [] w4 wr)
    case atStart => exact ⟨0, by omega, by omega, rfl, Kept.refl _ _⟩
    case round =>
      obtain ⟨k, hk, hgk, rfl, hK⟩ := hrel
      by_cases hlt : k < hy.length
      · rcases hOh.ways with ⟨_, h0, _⟩ | ⟨gh, curh, eh, eh2, eh3, -⟩
        · have : hy.length = 0 := h0
          omega
        have ch := hOh.cell eh k (.string hy[k]) (by simp [rowS, strs, hlt])
        have hgh := lt_of_get eh2
        have HN0 := (show Hid _ from HHY.out _ (List.getElem_mem hlt))
        rw [eh] at f2
        generalize hy[k] = hl at *
        have HSS : Hid (∀ w', Kept [] w4 w' → (w'.cell? ⟨b, 0, none⟩ = some (.pointer (some ⟨x, 0, none⟩)) ∧ w'.cell? ⟨F, 2, none⟩ = some (.slice (some ⟨gh, 0, none⟩) hy.length (Hf 0).cap) ∧ w'.cell? ⟨gh, k, none⟩ = some (.string hl)) ∧ b < w'.heap.size ∧ F < w'.heap.size) := fun w' q =>
          ⟨⟨by rw [World.cell?_of_block (q.block b (Nat.lt_of_lt_of_le hbc k4.size) (by simp)), World.cell?_of_block (k4.block b hbc (by simp))]; exact c0, by rw [World.cell?_of_block (q.block F hFw (by simp))]; exact f2, by rw [World.cell?_of_block (q.block gh hgh (by simp))]; exact ch⟩, Nat.lt_of_lt_of_le hbc (Nat.le_trans k4.size q.size), Nat.lt_of_lt_of_le hFw q.size⟩
        have HFN : Hid (∀ w', Kept [] w4 w' → Calls Tryz.prog 28 #[.pointer (some ⟨x, 0, none⟩), .string hl] w' fun e w'' => e = .returned (.tuple #[.slice none 0 0, .int .i64 8]) ∧ Kept [] w' w'') := fun w' q => by
          refine (HFR.out hl w' (k4.trans q)).mono ?_
          rintro e w'' ⟨k1, h2⟩
          rw [HN0.out] at h2
          exact ⟨h2, k1⟩
        obtain ⟨⟨d0, d1, d2⟩, d3, d4⟩ := HSS.out wr hK
        have hki : (k : Int) < hy.length := by omega
        have hk0 : (0 : Int) ≤ k := by omega
        go_upto_region 10 with fail
        go_cut [10] from 54 to 68 (fun s10 wd => s10 = .int .i64 8 ∧ Kept [] w4 wd)
        case first =>
          go_region_held3 (fun w' => w'.cell? ⟨b, 0, none⟩ = some (.pointer (some ⟨x, 0, none⟩)) ∧ w'.cell? ⟨F, 2, none⟩ = some (.slice (some ⟨gh, 0, none⟩) hy.length (Hf 0).cap) ∧ w'.cell? ⟨gh, k, none⟩ = some (.string hl)) (go_keep) ((go_at_call 28; refine (HFN.out _ (by exact hK.drew)).mono ?_; rintro e w5 ⟨rfl, k5⟩; obtain ⟨⟨e0, e1, e2⟩, e3, e4⟩ := HSS.out w5 (hK.drew.trans k5)))
          go_wp2_with fail
          go_meet
          case rel => exact ⟨rfl, hK.drew.trans k5⟩
        case rest =>
          obtain ⟨rfl, hK5⟩ := hcut
          clear d0 d1 d2 d3 d4
          go_wp2
          go_roundg (hy.length - (k + 1))
          case measure => omega
          case rel => exact ⟨k + 1, by omega, rfl, by go_num, hK5⟩
      · have e : k = hy.length := by omega
        subst e
        have f2r : wr.cell? ⟨F, 2, none⟩ = some (.slice (Hf 0).ao hy.length (Hf 0).cap) := by rw [World.cell?_of_block (hK.block F hFw (by simp))]; exact f2
        have hFr : F < wr.heap.size := Nat.lt_of_lt_of_le hFw hK.size
        clear HFR HHY hOh f2 hyb
        have kc4 := (hKc.trans k4).trans hK
        obtain ⟨Y, hY⟩ : ∃ Y, Y = wr.alloc (.cells #[.string ⟨#[]⟩, .string ⟨#[36, 99, 32]⟩, .string ⟨#[36, 118, 32]⟩, .string ⟨#[36, 99, 32]⟩, .string ⟨#[36, 118, 32]⟩] 9) := ⟨_, rfl⟩
        have kY : Kept [] wr Y := by rw [hY]; exact (Kept.refl [] _).alloc _
        have BY : Y.heap[wr.heap.size]? = some (.cells (cellsS tkS) 9 (0, 0)) := by rw [hY]; exact heap_alloc_new _ _
        have HY := (show Hid _ from hY.symm)
        clear hY
        have kYw := hK.trans kY
        have y9 : Y.cell? ⟨F, 9, none⟩ = some (.slice (some ⟨gg, goff, none⟩) ng hgd.cap) := by rw [World.cell?_of_block (kYw.block F hFw (by simp))]; exact f9
        have hggw := lt_of_get hgb
        have yg : Y.cell? ⟨gg, goff, none⟩ = some (.string c) := by rw [World.cell?_of_block (kYw.block gg hggw (by simp)), cell_of hgb]; exact hg0
        have hFY : F < Y.heap.size := Nat.lt_of_lt_of_le hFw kYw.size
        have hwy := lt_of_get BY
        have hxr : x < wr.heap.size := Nat.lt_of_lt_of_le hx4 hK.size
        have hngi : (0 : Int) < (ng : Int) := by omega
        go_upto_region 14 with fail
        rw [HY.out]
        go_cut [12] from 72 to 87 (fun s12 wd => ∃ nb, s12 = .slice (some ⟨nb, 0, none⟩) 5 5 ∧ Y.heap.size ≤ nb ∧ wd.heap[nb]? = some (.cells (cellsS (tkN lab c)) 9 (0, 0)) ∧ Kept [] Y wd)
        case first =>
          go_region_held3 (fun w' => w'.cell? ⟨F, 9, none⟩ = some (.slice (some ⟨gg, goff, none⟩) ng hgd.cap) ∧ w'.cell? ⟨gg, goff, none⟩ = some (.string c)) (go_keep) (fail)
          go_wp2_with fail
          go_meet
          case rel => exact ⟨Y.heap.size, rfl, Nat.le_refl _, heap_alloc_new _ _, ((Kept.refl [] Y).alloc _).drew⟩
        case rest =>
          obtain ⟨nb, rfl, hnb, hBN, kN⟩ := hcut
          clear y9 yg
          have kE := kc4.trans (kY.trans kN)
          have hWe := hW.still kE
          obtain ⟨e0, e1, -⟩ := hWe.cells
          have hbe := hWe.lt
          have hli := line_le T T.size
          obtain ⟨LL, HLL⟩ : ∃ LL, Hid (lineAt T T.size - 1 + 2 = LL) := ⟨_, rfl⟩
          have hnbw := lt_of_get hBN
          have hBS := kN.get BY (by simp)
          have hsE := kN.size
          have hRe := hR.still kE
          have HI0 : Hid (TkIn w (wc.alloc (.cells #[.string ⟨#[109]⟩, .int .i64 (lineAt T T.size - 1 + 2), .int .i64 0] 39)) b x T o wr.heap.size nb wc.heap.size lab c LL) := by
            have q : Kept [] wc (wc.alloc (.cells #[.string ⟨#[109]⟩, .int .i64 (lineAt T T.size - 1 + 2), .int .i64 0] 39)) := (Kept.refl [] _).alloc _
            refine ⟨hWe.still q, ⟨fs2, (hRe.still q).anyR, hM2⟩, q.get hBS (by simp), q.get hBN (by simp), ⟨0, by rw [← HLL.out]; exact heap_alloc_new _ _⟩, (kE.trans q).mono (by simp), ?_⟩
            have hz0 := kE.size
            exact ⟨by omega, by omega, by omega, by omega, by omega, by omega, by omega, fun g1 hg1 => by rw [ho] at hg1; cases hg1; omega⟩
          have HRO : Hid (∀ g1, o = some g1 → g1 < w.heap.size) := hW.rows.lt
          go_wp2_with (go_at_call 22; refine (lines_any T _ (by omega)).mono ?_; rintro e w9 ⟨rfl, hw9⟩; rw [hw9])
          obtain ⟨P, HP⟩ : ∃ P, Hid (wc.heap.size = P) := ⟨_, rfl⟩
          obtain ⟨sb, HSB⟩ : ∃ sb, Hid (wr.heap.size = sb) := ⟨_, rfl⟩
          obtain ⟨WE, HWE⟩ : ∃ WE, Hid (wc.alloc (.cells #[.string ⟨#[109]⟩, .int .i64 (lineAt T T.size - 1 + 2), .int .i64 0] 39) = WE) := ⟨_, rfl⟩
          rw [HWE.out] at HI0 ⊢
          rw [HP.out, HSB.out] at HI0
          simp only [HP.out, HSB.out]
          clear e0 e1 hBS hBN hWe hRe
          go_loopg [14] 5 (fun gk i wr => ∃ (k : Nat), k ≤ 5 ∧ gk = 5 - k ∧ i = .int .i64 k ∧ TkIn w wr b x T o sb nb P lab c LL)
          case atStart => exact ⟨0, by omega, by omega, rfl, HI0.out⟩
          case round =>
            obtain ⟨k, hk, hgk, rfl, hI⟩ := hrel
            obtain ⟨cc0, hPb⟩ := hI.p
            obtain ⟨f1, f2, f3, f4, f5, f6, f7, f8⟩ := hI.far
            obtain ⟨e0, e1, -⟩ := hI.W.cells
            have hbr := hI.W.lt
            by_cases hlt : k < 5
            · obtain ⟨s, hs⟩ : ∃ s, tkS[k]? = some s := ⟨tkS[k]'hlt, List.getElem?_eq_getElem hlt⟩
              obtain ⟨xn, hxn⟩ : ∃ xn, (tkN lab c)[k]? = some xn := ⟨(tkN lab c)[k]'hlt, List.getElem?_eq_getElem hlt⟩
              obtain ⟨hTk, hxs, hss⟩ := HRT.out.tx k s xn hlt hs hxn
              have hUs := hTk.size
              obtain ⟨rr1, ff, ll, cc, ee, SEE, HCS⟩ := tk_see b x T s xn _ o wr hI.W hI.V hx hTk (by omega) LL HLL.out
              unfold endB at SEE
              have cs := cells_at hI.s k s hs
              have cn := cells_at hI.n k xn hxn
              have hsbw := lt_of_get hI.s
              have hnbw2 := lt_of_get hI.n
              have hPw := lt_of_get hPb
              have hxw2 : x < wr.heap.size := by obtain ⟨fs3, v1, -⟩ := hI.V; exact v1.lt
              have HSS : Hid (∀ wx w2 : World, Kept [] wr wx → Kept [x] wx w2 → w2.cell? ⟨sb, k, none⟩ = some (.string s) ∧ w2.cell? ⟨nb, k, none⟩ = some (.string xn)) := fun wx w2 q1 q2 =>
                ⟨cells_at (q2.get (q1.get hI.s (by simp)) (by simpa using f1)) k s hs, cells_at (q2.get (q1.get hI.n (by simp)) (by simpa using f2)) k xn hxn⟩
              have hSa : Hid (∀ w2 : World, Kept [x] (wr.alloc (.cells #[.slice none 0 0, .int .i64 0, .string ⟨#[]⟩, .int .i64 0, .int .i64 0, .int .i64 0] 52)).drew w2 → w2.heap[wr.heap.size]? = some (.cells #[.slice none 0 0, .int .i64 0, .string ⟨#[]⟩, .int .i64 0, .int .i64 0, .int .i64 0] 52 (0, 0))) := fun w2 hk => hk.get (heap_alloc_new wr (.cells #[.slice none 0 0, .int .i64 0, .string ⟨#[]⟩, .int .i64 0, .int .i64 0, .int .i64 0] 52)) (by simp; omega)
              have HRL : Hid (∀ g, o = some g → g < wr.heap.size) := hI.W.rows.lt
              have hki : (k : Int) < 5 := by omega
              have hk0 : (0 : Int) ≤ k := by omega
              go_upto_region 19 with fail
              go_cut [15, 16] from 99 to 119 (fun s15 s16 wd => ∃ sp, wr.heap.size ≤ sp ∧ s15 = .pointer (some ⟨sp, 0, none⟩) ∧ s16 = .bool true ∧ wd.heap[sp]? = some (.cells #[.slice none 0 0, .int .i64 rr1, .string ff, .int .i64 ll, .int .i64 cc, .int .i64 ee] 52 (0, 0)) ∧ WorldAt wd b x T o ∧ (∃ fs', SomeAt wd x fs' ∧ MOk 0 fs') ∧ Kept [x] wr wd)
              case first =>
                have n1 := World.new_ne wr ⟨b, 1, none⟩ e1
                have n2 := World.new_ne wr ⟨sb, k, none⟩ cs
                have n3 := World.new_ne wr ⟨nb, k, none⟩ cn
                have z1 : ¬ 9223372036854775807 < T.size + 1 := by omega
                have z2 : ¬ 9223372036854775807 < T.size + 1 + s.size := by omega
                have z3 : ¬ 9223372036854775807 < T.size + 1 + s.size + xn.size := by omega
                have z4 : ¬ 9223372036854775807 < T.size + 1 + s.size + xn.size + 3 := by omega
                go_region_held3 (fun w' => w'.cell? ⟨b, 1, none⟩ = some (.string T) ∧ w'.cell? ⟨sb, k, none⟩ = some (.string s) ∧ w'.cell? ⟨nb, k, none⟩ = some (.string xn)) (go_keep) (first | (go_at_call 18; refine Calls.mono (SEE.out _ (by first | exact ((Kept.refl [] wr).alloc (.cells #[.slice none 0 0, .int .i64 0, .string ⟨#[]⟩, .int .i64 0, .int .i64 0, .int .i64 0] 52)).drew | exact (Kept.refl [] wr).drew)) ?_; rintro e w2 ⟨rfl, hW2, hV2, hk2⟩; obtain ⟨d0, d1, -⟩ := hW2.cells; obtain ⟨d3, d4⟩ := HSS.out _ w2 (by first | exact ((Kept.refl [] wr).alloc (.cells #[.slice none 0 0, .int .i64 0, .string ⟨#[]⟩, .int .i64 0, .int .i64 0, .int .i64 0] 52)).drew | exact (Kept.refl [] wr).drew) hk2; try (obtain ⟨y0, y1, y2, y3, y4, y5⟩ := seen_cells (hSa.out w2 hk2); have y := free_of (hSa.out w2 hk2))))
                · go_wp2_with fail
                  go_meet
                  case rel => exact ⟨w2.heap.size, hk2.size, rfl, rfl, heap_alloc_new _ _, hW2.still ((Kept.refl [] _).alloc _), ⟨_, hV2.choose_spec.1.kept ((Kept.refl [] _).alloc _) (by simp), hV2.choose_spec.2⟩, ((Kept.refl [x] wr).drew.trans hk2).alloc _⟩
                · go_wp2_with fail
                  go_meet
                  case rel =>
                    refine ⟨wr.heap.size, Nat.le_refl _, rfl, rfl, tk_stored (hSa.out w2 hk2) _ _ _ _ _ _, hW2.kept (six_in _ _ _ _ _ _) (by simp; omega) (fun g hg => by have := HRL.out g hg; simp; omega), ⟨_, hV2.choose_spec.1.kept (six_in _ _ _ _ _ _) (by simp; omega), hV2.choose_spec.2⟩, six_kept (((Kept.refl [x] wr).alloc _).drew.trans hk2) (Nat.le_refl _) _ _ _ _ _ _⟩
              case rest =>
                obtain ⟨sp, hsp, rfl, rfl, hS, hWd, hVd, hkd⟩ := hcut
                have hId := hI.seen hkd hWd hVd
                obtain ⟨cc1, hPd⟩ := hId.p
                obtain ⟨p0, p1, p2⟩ := tk_place hPd
                have pf := free_of hPd
                obtain ⟨y0, y1, y2, y3, y4, y5⟩ := seen_cells hS
                have hsw := lt_of_get hS
                have hPw2 := lt_of_get hPd
                have csd := cells_at hId.s k s hs
                have HC := (show Hid _ from hId.col ((s.size : Int) + 1))
                have np1 : sp ≠ P := by omega
                have np2 : P ≠ sp := by omega
                clear SEE hSa HSS e0 e1 cs cn hId hI hS hPd
                rcases HCS.out with h3 | ⟨h6, hrr, hff, hll, hcc⟩
                · subst h3
                  go_wp2
                  go_roundg (5 - (k + 1))
                  case measure => omega
                  case rel => exact ⟨k + 1, by omega, rfl, by go_num, HC.out.1⟩
                · subst h6 hrr hff hll hcc
                  have hpn := fun (wx : World) => placeNeq ⟨#[109]⟩ ll ((s.size : Int) + 1) wx
                  go_wp2
                  go_roundg (5 - (k + 1))
                  case measure => omega
                  case rel => exact ⟨k + 1, by omega, rfl, by go_num, HC.out.1⟩
            · have e : k = 5 := by omega
              subst e
              obtain ⟨fs3, v1, v2⟩ := hI.V
              go_wp2_with fail
              refine (back_any (N := 0) (by omega) b x T o fs3 _ hI.W v1 hx v2 hT).mono ?_
              rintro e w7 ⟨rfl, -, -, hk7⟩
              go_wp2
              go_ret
              exact ⟨rfl, hI.kept.trans hk7⟩

end Go.Proofs.YtcipkfhpcbddiaaGreat
