/- Our texts: Keep3b, Keep4, RowK, TakenRow, Nam1, PuM, PuN. -/
import Derived.Test.YtcipkfhpcbddiaaGreatRows
import Derived.ProofKit
import Derived.OpenShut
import Derived.ShutString
import Derived.ChangeOld
import Derived.Below
import Derived.SizedLaws
import Derived.SliceStrings
import Derived.Test.YtcipkfhpcbddiaaGreatG09
import Derived.Test.YtcipkfhpcbddiaaGreatG10
import Derived.Test.YtcipkfhpcbddiaaGreatG20
/- Package metaproofkeep: chunk. -/
namespace Go.Proofs.YtcipkfhpcbddiaaGreat
open Go.RowKit

theorem two_keptW (w : World) (b : Nat) (u v : Value) : Kept [b] w ((w.setCell ⟨b, 1, none⟩ u).setCell ⟨b, 2, none⟩ v) :=
  ((Kept.refl [b] w).setCell (Or.inl (by simp)) _).setCell (Or.inl (by simp)) _
theorem WorldAt.text {w : World} {b x : Nat} {T : ByteArray} {o : Option Nat} (h : WorldAt w b x T o) (U : ByteArray) (o' : Option Nat) (hR : RowsAt w o' (rowsM U)) (hne : ∀ g, o' = some g → g ≠ b ∧ g ≠ x) :
    WorldAt ((w.setCell ⟨b, 1, none⟩ (.string U)).setCell ⟨b, 2, none⟩ (rowsSl o' (rowsM U).length)) b x U o' := by
  refine ⟨?_, hR.kept (two_keptW w b _ _) (fun g hg => by have := (hne g hg).1; simpa using this), hne⟩
  rw [block_setCell (block_setCell h.blk 1 (.string U)) 2 (rowsSl o' (rowsM U).length)]
  simp [worldCells]

/-- What chunk leaves. -/
def ChunkSays (N b x : Nat) (w : World) (e : Ending) (w' : World) : Prop :=
  e = .returned (.bool true) ∧ (∃ T' o', WorldAt w' b x T' o' ∧ Fine T') ∧ (∃ fs', SomeAt w' x fs' ∧ MOk N fs') ∧ Kept [b, x] w w'

set_option maxHeartbeats 3000000 in
set_option maxRecDepth 100000 in
theorem chunk_any {N : Nat} (hN : N ≤ 3) (b x : Nat) (T c : ByteArray) (o : Option Nat) (fs : List (ByteArray × ByteArray)) (w : World) (hW : WorldAt w b x T o) (hV : SomeAt w x fs) (hx : x ≠ b) (hM : MOk N fs) (hT : Fine T) (hc : c.size ≤ 1073741824) :
    Calls Tryz.prog 16 #[.pointer (some ⟨b, 0, none⟩), .string c] w fun e w' => ChunkSays N b x w e w' := by
  have hTs := hT.size
  have hbw := hW.lt
  have hxw := hV.lt
  obtain ⟨c0, c1, -⟩ := hW.cells
  cases hh : holdsF c
  · have hsz : (T ++ ⟨#[10]⟩ ++ c).size = T.size + 1 + c.size := by simp only [ByteArray.size_append]; rfl
    have HU : Hid (∀ U, U = T ++ ⟨#[10]⟩ ++ c → U.size = T.size + 1 + c.size ∧ holdsF U = false ∧ ((rdM U).1.1 ≠ 0 → lineAt T T.size + 1 ≤ lineAt U (rdM U).1.2) ∧ ∃ m, rowsM U = rowsM T ++ m) := by
      intro U hUU; subst hUU; exact ⟨hsz, holds_more T c hT.inc hh, more_line T c hT, rows_more T c hT⟩
    clear hsz
    go_enter Tryz.func16, Tryz.ntmps16
    go_wp2_with (go_at_call 17; refine (kholds_any _ _ (by omega)).mono ?_; rintro e w9 ⟨rfl, hw9⟩; rw [hw9])
    obtain ⟨U, hUU⟩ : ∃ U, U = T ++ ⟨#[10]⟩ ++ c := ⟨_, rfl⟩
    rw [← hUU]
    obtain ⟨u1, u3, u4, m, u5⟩ := HU.out U hUU
    clear hUU HU
    by_cases hl : 1024 < U.size
    · refine (see_long b x T U o fs _ hW hV hx hl (by omega)).mono ?_
      rintro e w2 ⟨rfl, hW2, hV2, hk2⟩
      simp only [seenV]
      have hb2 := hW2.lt
      go_wp2_with fail
      refine (back_any hN b x T o fs _ (hW2.still ((Kept.refl [] _).alloc _)) (hV2.kept ((Kept.refl [] _).alloc _) (by simp)) hx hM hT).mono ?_
      rintro e w3 ⟨rfl, hW3, ⟨fs3, hV3, hM3⟩, hk3⟩
      go_wp2
      go_ret
      exact ⟨rfl, ⟨T, o, hW3, hT⟩, ⟨fs3, hV3, hM3⟩, ((hk2.mono (by simp)).alloc _).trans (hk3.mono (by simp))⟩
    · refine (see_short hN b x T U o fs _ hW hV hx hl hM u3).mono ?_
      rintro e w2 ⟨o', rfl, hR2, hg2, hW2, ⟨fs2, hV2, hM2⟩, hk2⟩
      unfold seeV
      have hb2 := hW2.lt
      have FU : Hid (((rdM U).1.1 == 0) = true → Fine U) := fun h => ⟨by omega, by simpa using h, u3⟩
      obtain ⟨r, HR⟩ : ∃ r, Hid ((rdM U).1.1 = r) := ⟨_, rfl⟩
      obtain ⟨p, HP⟩ : ∃ p, Hid ((rdM U).1.2 = p) := ⟨_, rfl⟩
      rw [HR.out] at hR2 u4 FU ⊢
      rw [HP.out] at u4 ⊢
      cases hr : (r == 0)
      · simp only [Bool.false_eq_true, if_false, seenV]
        have hl1 := line_le T T.size
        have hl2 := u4 (by simpa using hr)
        have hl3 := line_le U p
        clear u4 hR2 FU c0 c1
        obtain ⟨c0, c1, -⟩ := hW2.cells
        go_wp2_with (go_at_call 22; refine (lines_any _ _ (by omega)).mono ?_; rintro e w9 ⟨rfl, hw9⟩; subst hw9)
        refine (back_any hN b x T o fs2 _ (hW2.still ((Kept.refl [] _).alloc _)) (hV2.kept ((Kept.refl [] _).alloc _) (by simp)) hx hM2 hT).mono ?_
        rintro e w3 ⟨rfl, hW3, ⟨fs3, hV3, hM3⟩, hk3⟩
        go_wp2
        go_ret
        exact ⟨rfl, ⟨T, o, hW3, hT⟩, ⟨fs3, hV3, hM3⟩, ((hk2.mono (by simp)).alloc _).trans (hk3.mono (by simp))⟩
      · simp only [if_true]
        have hR2 := hR2 hr
        have HF2 := (show Hid _ from FU.out hr)
        have BG := fun (w' : World) (k : Kept [] w2 w') => begins_any o o' (rowsM T) m w' (hW2.rows.still k) (by rw [← u5]; exact hR2.still k) (by rw [← u5]; exact HF2.out.rws)
        rw [← u5] at BG
        obtain ⟨d0, d1, d2⟩ := hW2.cells
        obtain ⟨ao1, n1, c1', hrs1⟩ := rowsSl_is o' (rowsM U).length
        obtain ⟨ao2, n2, c2', hrs2⟩ := rowsSl_is o (rowsM T).length
        rw [hrs1, hrs2] at BG
        rw [hrs2] at d2
        rw [hrs1]
        have HBG := (show Hid _ from BG)
        have HRS1 := (show Hid _ from hrs1)
        have HR2 : Hid (RowsAt w2 o' (rowsM U)) := hR2
        clear BG hrs1 hrs2 u5 hR2 u4 FU c0 c1 u3 hl
        simp only [seenV]
        go_upto_region 9 with fail
        obtain ⟨W3, hW3⟩ : ∃ W3, W3 = w2.alloc (.cells #[.slice ao1 n1 c1', .int .i64 0, .string ⟨#[]⟩, .int .i64 0, .int .i64 0, .int .i64 0] 52) := ⟨_, rfl⟩
        have k3 : Kept [] w2 W3 := by rw [hW3]; exact (Kept.refl [] _).alloc _
        have B3 : W3.heap[w2.heap.size]? = some (.cells #[.slice ao1 n1 c1', .int .i64 0, .string ⟨#[]⟩, .int .i64 0, .int .i64 0, .int .i64 0] 52 (0, 0)) := by rw [hW3]; exact heap_alloc_new _ _
        rw [← hW3]
        have s0 := (seen_cells B3).1
        have e2 : W3.cell? ⟨b, 2, none⟩ = some (.slice ao2 n2 c2') := by
          rw [World.cell?_of_block (k3.block b hb2 (by simp))]; exact d2
        have hb3 : b < W3.heap.size := Nat.lt_of_lt_of_le hb2 k3.size
        clear hW3 d0 d1 d2
        go_region_with (go_at_call 36; refine (HBG.out _ (by exact k3.trans (Kept.refl [] W3).drew)).mono ?_; rintro e w4 ⟨rfl, k4⟩)
        all_goals
          have K4 : Kept [] w2 w4 := (k3.trans (Kept.refl [] W3).drew).trans k4
          have B4 := k4.get ((Kept.refl [] W3).drew.get B3 (by simp)) (by simp)
          obtain ⟨t0, -, -, -, -, -⟩ := seen_cells B4
          have hW4 := hW2.still K4
          have hz4 := lt_of_get B4
          have hb4 := hW4.lt
          obtain ⟨f0, f1, f2⟩ := hW4.cells
          obtain ⟨ao3, n3, c3', hrs3⟩ := rowsSl_is o (rowsM T).length
          rw [hrs3] at f2
          have hfr := free_of hW4.blk
          have hne : b ≠ w2.heap.size := by omega
          have hne' : w2.heap.size ≠ b := by omega
          have HT4 := (show Hid _ from hW4.text U o' (HR2.out.still K4) (fun g hg => by have := hg2 g hg; omega))
          rw [HRS1.out] at HT4
          have HV4 : Hid (SomeAt w4 x fs2) := hV2.kept K4 (by simp)
          have HKK : Hid (Kept [b, x] w w4) := (hk2.mono (by simp)).trans (K4.mono (by simp))
          clear s0 e2 B3 hW4 hrs3 B4 k4 K4
          go_wp2
          go_ret
          exact ⟨rfl, ⟨U, o', HT4.out, HF2.out⟩, ⟨fs2, HV4.out.kept (two_keptW w4 b _ _) (by simpa using hx), hM2⟩, (HKK.out.setCell (Or.inl (by simp)) _).setCell (Or.inl (by simp)) _⟩
  · go_enter Tryz.func16, Tryz.ntmps16
    go_wp2_with (go_at_call 17; refine (kholds_any _ _ (by omega)).mono ?_; rintro e w9 ⟨rfl, rfl⟩)
    go_ret
    exact ⟨rfl, ⟨T, o, hW, hT⟩, ⟨fs, hV, hM⟩, Kept.refl _ _⟩

end Go.Proofs.YtcipkfhpcbddiaaGreat

/- Package metaproofkeep: grown. -/
namespace Go.Proofs.YtcipkfhpcbddiaaGreat
open Go.RowKit

theorem build_world (w : World) (a : Option Addr) : (Instr.build 49 #[(0, .pointer a)]).run Tryz.prog w = .ok (.agg #[.pointer a, .string ⟨#[]⟩, .slice none 0 0, .int .i64 0, .slice none 0 0, .slice none 0 0, .slice none 0 0, .slice none 0 0, .slice none 0 0]) w :=
  run_build w 49 _ _ (by kernel_rfl)
attribute [local go_sem] build_world

theorem rowsM_empty : rowsM ⟨#[]⟩ = [] := by
  have h : (rdM ⟨#[]⟩).2.sts.length = 0 := by decide +kernel
  unfold rowsM
  rw [List.eq_nil_of_length_eq_zero h]
  rfl

/-- A world of the law's: its block, its verifier's block, its text. -/
def Laid (w0 w : World) (b x : Nat) : Prop := w0.heap.size ≤ b ∧ w0.heap.size ≤ x ∧ x ≠ b ∧ (∃ T o, WorldAt w b x T o ∧ Fine T) ∧ (∃ fs, SomeAt w x fs ∧ MOk 0 fs)

set_option maxHeartbeats 1000000 in
set_option maxRecDepth 100000 in
theorem grown_any (ao : Option Addr) (cap : Nat) (l : List ByteArray) (w : World) (hl : l.length ≤ 1073741824) (hls : ∀ i, i < l.length → (l.getD i ⟨#[]⟩).size ≤ 1073741824)
    (hc : l.length = 0 ∨ ∃ b off, ao = some ⟨b, off, none⟩ ∧ ChunksAt w b off l) :
    Calls Tryz.prog 8 #[.slice ao l.length cap] w fun e w' => ∃ b x, e = .returned (.tuple #[.pointer (some ⟨b, 0, none⟩), .bool true]) ∧ Laid w w' b x ∧ Kept [] w w' := by
  go_enter Tryz.func8, Tryz.ntmps8
  go_wp2_with fail
  refine (new_any _).mono ?_
  rintro e w1 ⟨rfl, hV1, hk1⟩
  have hx1 := hV1.anyR.lt
  have hW1 : WorldAt (w1.alloc (.cells #[.pointer (some ⟨w.heap.size, 0, none⟩), .string ⟨#[]⟩, .slice none 0 0, .int .i64 0, .slice none 0 0, .slice none 0 0, .slice none 0 0, .slice none 0 0, .slice none 0 0] 49)) w1.heap.size w.heap.size ⟨#[]⟩ none :=
    ⟨heap_alloc_new _ _, rowsM_empty, fun g hg => by cases hg⟩
  have HW1 := (show Hid _ from hW1)
  clear hW1
  have hsz := hk1.size
  go_wp2
  go_loopg [6, 7] l.length (fun g i _ wr => ∃ (k : Nat), k ≤ l.length ∧ g = l.length - k ∧ i = .int .i64 k ∧ Laid w wr w1.heap.size w.heap.size ∧ Kept [] w wr)
  case atStart => exact ⟨0, by omega, by omega, rfl, ⟨by omega, Nat.le_refl _, by omega, ⟨_, _, HW1.out, fine_empty⟩, ⟨[], hV1.anyR.kept ((Kept.refl [] _).alloc _) (by simp), Or.inr ⟨rfl, by simp⟩, filesOk_nil⟩⟩, hk1.alloc _⟩
  case round =>
    obtain ⟨k, hk, hg, rfl, ⟨la, lb, lc, ⟨T, o, hW, hT⟩, ⟨fs, hV, hM⟩⟩, hkp⟩ := hrel
    by_cases hlt : k < l.length
    · rcases hc with h0 | ⟨cb, off, rfl, hcc⟩
      · omega
      · have hcb := hcc.1
        have hcr := (hcc.kept hkp (by simp)).2 k hlt
        have e0 : l.getD k ⟨#[]⟩ = l[k] := by rw [List.getD_eq_getElem?_getD, List.getElem?_eq_getElem hlt]; rfl
        have hcs := hls k hlt
        rw [e0] at hcs
        generalize l[k] = c at *
        clear e0
        go_wp2_with fail
        refine (chunk_any (N := 0) (by omega) w1.heap.size w.heap.size T c o fs _ hW hV lc hM hT hcs).mono ?_
        rintro e w2 ⟨rfl, hW2, hV2, hk2⟩
        have hkw : Kept [] w w2 := ⟨hk2.os.trans hkp.os, hk2.tape.trans hkp.tape, hk2.output.trans hkp.output, Nat.le_trans hkp.size hk2.size, fun i hi _ => (hk2.block i (Nat.lt_of_lt_of_le hi hkp.size) (by simp; omega)).trans (hkp.block i hi (by simp))⟩
        go_wp2
        go_roundg (l.length - (k + 1))
        case measure => omega
        case rel => exact ⟨k + 1, by omega, rfl, by go_num, ⟨la, lb, lc, hW2, hV2⟩, hkw⟩
    · go_wp2
      go_ret2
      exact ⟨w1.heap.size, w.heap.size, rfl, ⟨la, lb, lc, ⟨T, o, hW, hT⟩, ⟨fs, hV, hM⟩⟩, hkp⟩

theorem mok0 {fs : List (ByteArray × ByteArray)} (h : MHas 0 fs) : fs = [] ∨ ∃ t, fs = [(⟨#[109]⟩, t)] := by
  rcases h with ⟨⟨k, hk, hf⟩, hl⟩ | ⟨_, hl⟩
  · right
    match fs, hl, hk, hf with
    | [f], _, hk, hf =>
      have hk0 : k = 0 := by simpa using hk
      subst hk0
      simp only [findF, findFrom] at hf
      split at hf
      · next he => exact ⟨f.2, by rw [← str_true he]⟩
      · simp at hf
  · left; exact List.eq_nil_of_length_eq_zero (by omega)

theorem put_x0 (n : ByteArray) (hn : isNameF n = true) (hm : ((⟨#[109]⟩ : ByteArray).toList == n.toList) = false) (hm2 : (n.toList == (⟨#[109]⟩ : ByteArray).toList) = false) (fs : List (ByteArray × ByteArray)) (d : ByteArray) (h : MHas 0 fs) :
    MHas 1 (putF fs n d).2 ∧ (putF fs n d).1 = if 1024 < d.size then 3 else 0 := by
  have hm1 : MHas 1 fs := by
    rcases h with ⟨a, b⟩ | ⟨a, b⟩
    · exact Or.inl ⟨a, by omega⟩
    · exact Or.inr ⟨a, by omega⟩
  by_cases hd : 1024 < d.size
  · have hc : checkF n d = 3 := by simp [checkF, hn, hd]
    simp [putF, hc, hd, hm1]
  · have hc : checkF n d = 0 := by simp [checkF, hn, hd]
    rcases mok0 h with rfl | ⟨t, rfl⟩
    · have e : putF [] n d = (0, [(n, d)]) := by simp [putF, hc, findF, findFrom]
      rw [e]
      refine ⟨Or.inr ⟨?_, by simp⟩, by simp [hd]⟩
      simp only [findF, findFrom, hm2]; simp
    · have e : putF [(⟨#[109]⟩, t)] n d = (0, [(⟨#[109]⟩, t), (n, d)]) := by
        simp only [putF, hc, findF, findFrom, hm]; simp
      rw [e]
      refine ⟨Or.inl ⟨⟨0, by simp, ?_⟩, by simp⟩, by simp [hd]⟩
      simp [findF, findFrom]

theorem filesOk_put {fs : List (ByteArray × ByteArray)} (h : FilesOk fs) (n d : ByteArray) : FilesOk (putF fs n d).2 := by
  unfold putF
  split
  · exact h
  · next hc =>
    have hd : d.size ≤ 1024 := by
      unfold checkF at hc
      split at hc
      · simp at hc
      · split at hc
        · simp at hc
        · omega
    split
    · exact filesOk_set h _ _ _ hd
    · split
      · exact h
      · exact filesOk_snoc h _ _ hd
theorem put_x (n : ByteArray) (hn : isNameF n = true) (hm : ((⟨#[109]⟩ : ByteArray).toList == n.toList) = false) (hm2 : (n.toList == (⟨#[109]⟩ : ByteArray).toList) = false) (fs : List (ByteArray × ByteArray)) (d : ByteArray) (h : MOk 0 fs) :
    MOk 1 (putF fs n d).2 ∧ (putF fs n d).1 = if 1024 < d.size then 3 else 0 :=
  ⟨⟨(put_x0 n hn hm hm2 fs d h.1).1, filesOk_put h.2 n d⟩, (put_x0 n hn hm hm2 fs d h.1).2⟩

theorem small_none (ao : Option Addr) (cap : Nat) (w : World) : Calls Tryz.prog 6 #[.slice ao 0 cap] w fun e w' => e = .returned (.bool true) ∧ w' = w := by
  go_enter Tryz.func6, Tryz.ntmps6
  go_wp2
  refine wp_loop_rounds 1 ?_
  rw [rounds_succ]
  go_wp2
  go_ret
  exact ⟨rfl, rfl⟩

theorem smallish (ao : Option Addr) (cap : Nat) (l : List ByteArray) (w : World) (hl : l.length ≤ 140737488351232) (hls : ∀ x, x ∈ l → x.size ≤ 140737488351232) (hc : l.length = 0 ∨ ∃ b off, ao = some ⟨b, off, none⟩ ∧ ChunksAt w b off l) :
    Calls Tryz.prog 6 #[.slice ao l.length cap] w fun e w' => (∃ r, e = .returned (.bool r) ∧ (r = true → l.length ≤ 1073741824 ∧ ∀ i, i < l.length → (l.getD i ⟨#[]⟩).size ≤ 1073741824)) ∧ w' = w := by
  rcases hc with h0 | ⟨b, off, rfl, hcc⟩
  · rw [h0]
    refine (small_none ao cap w).mono ?_
    rintro e w1 ⟨rfl, rfl⟩
    exact ⟨⟨true, rfl, fun _ => ⟨by omega, fun i hi => by omega⟩⟩, rfl⟩
  · exact small_any b off cap l w hl hls hcc

end Go.Proofs.YtcipkfhpcbddiaaGreat

/- Rows round the walks: the chunks that came in. -/
namespace Go.Proofs.YtcipkfhpcbddiaaGreat
open Go.ChangeShapes Go.WideShapes Go.ChangeAt Go.RowKit
open Go.ChangeMaps (open_string shut_string)

theorem own : ownKnob Tryz.prog.godebug = none := by kernel_rfl
theorem laidOut : laidOutB Tryz.prog = true := by kernel_rfl
theorem bytesS : Tryz.prog.bytesOf 9 = 16 := by kernel_rfl

theorem weights_strs {H : Type} (P : Program) (e : TypeId) (f : ByteArray → DataW H) (hf : ∀ s, f s = .lit (.string s.data.toList)) (l : List ByteArray) (s : ByteArray) (hs : s ∈ l) : s.data.toList.length ∈ DataW.weightsAll P e (l.map f) := by
  induction l with
  | nil => simp at hs
  | cons a r ih =>
    rw [List.map_cons, DataW.weightsAll, List.mem_append]
    rcases List.mem_cons.1 hs with rfl | h
    · left; rw [hf, DataW.weights]; simp
    · right; exact ih h

/-- What the walk is told of the chunks that came in. -/
theorem chunks_in {H : Type} {enc : TypeId × Value → H} {W : World} {a0 : Option Addr} {len0 cap0 : Nat} {d0 : DataW H} {p0 : List MemPlace} {TS : List TypeId} {DS : List (DataW H)}
    (h0 : DataW.Trod enc Tryz.prog W 0 (fun _ => true) true 22 (.slice a0 len0 cap0) d0 p0)
    (hsz : (DataW.weightsEach Tryz.prog TS DS).all (· ≤ reachBytes) = true) (hT : TS[0]? = some 22) (hD : DS[0]? = some d0) :
    ∃ l : List ByteArray, l.length = len0 ∧ len0 ≤ 140737488351232 ∧ (∀ x, x ∈ l → x.size ≤ 140737488351232) ∧ (l.length = 0 ∨ ∃ b off, a0 = some ⟨b, off, none⟩ ∧ ChunksAt W b off l) := by
  have lt0 : ∀ x ∈ p0, x.block < W.heap.size := by obtain ⟨m, hm⟩ := h0; exact DataW.trod_lt m _ _ _ hm
  obtain ⟨fuel, hf⟩ := h0
  rcases open_strings Tryz.underlying22 Tryz.underlying9 (by kernel_rfl) hf with ⟨hcs, _⟩ | ⟨x, l, c, ss, hcs, _, hl, hm, hz, hx, hcell, hws⟩
  · simp [Value.cells] at hcs
    obtain ⟨rfl, rfl, rfl⟩ := hcs
    exact ⟨[], rfl, by omega, by simp, Or.inl rfl⟩
  · simp [Value.cells] at hcs
    obtain ⟨rfl, rfl, rfl⟩ := hcs
    simp at hz
    have hsl : (ss.take len0).length = len0 := by simp; omega
    simp only [Prod.mk.injEq] at hx
    obtain ⟨rfl, -⟩ := hx
    have hw1 := sized_slice hsz (j := 0) hT hD Tryz.underlying22
    rw [bytesS] at hw1
    simp only [ChangeShapes.strs, List.length_map, List.length_take, List.length_drop, reachBytes] at hw1
    refine ⟨ss.take len0, hsl, by omega, ?_, ?_⟩
    · intro y hy
      have hm1 : y.data.toList.length ∈ DataW.weights Tryz.prog 22 (.slice (ChangeShapes.strs (ss.take len0)) (ChangeShapes.strs (ss.drop len0)) : DataW H) := by
        simp only [DataW.weights, Tryz.underlying22]
        exact List.mem_cons_of_mem _ (List.mem_append_left _ (weights_strs Tryz.prog 9 _ (fun _ => rfl) _ y hy))
      have := List.all_eq_true.1 hsz _ (DataW.weights_mem_each (j := 0) hT hD _ hm1)
      have this2 : y.data.toList.length ≤ reachBytes := by simpa using this
      simp only [reachBytes] at this2
      exact this2
    · by_cases h0 : len0 = 0
      · left; rw [hsl]; exact h0
      · right
        obtain ⟨b, off, spot⟩ := x
        have hc0 := hcell 0 (by omega)
        have hspot : spot = none := by simpa [Addr.add] using World.cell?_spot hc0
        subst hspot
        refine ⟨b, off, rfl, ?_, ?_⟩
        · have : W.cell? ⟨b, off, none⟩ = some (.string (ss.getD 0 ByteArray.empty)) := by simpa [Addr.add] using hc0
          unfold World.cell? at this
          split at this
          · next hh => exact lt_of_get hh
          · cases this
        · intro i hi
          have hi' : i < len0 := by rw [hsl] at hi; exact hi
          have := hcell i (by omega)
          have ea : (⟨b, off, none⟩ : Addr).add i = ⟨b, off + i, none⟩ := by
            simp only [Addr.add]
            split
            · next h => subst h; rfl
            · rfl
          rw [ea] at this
          rw [this, List.getElem_take, List.getD_eq_getElem?_getD, List.getElem?_eq_getElem (by omega)]
          rfl

end Go.Proofs.YtcipkfhpcbddiaaGreat

/- The statement on Taken: the row round the walk. -/
namespace Go.Proofs.YtcipkfhpcbddiaaGreat
open Go.ChangeShapes Go.WideShapes Go.ChangeAt Go.RowKit
open Go.ChangeMaps (open_string shut_string)

/-- What the walk tells. -/
def TakenWalk : Prop := ∀ (ao : Option Addr) (cap : Nat) (l : List ByteArray) (a : Int) (w : World), l.length ≤ 140737488351232 → (∀ x, x ∈ l → x.size ≤ 140737488351232) → -9223372036854775808 ≤ a → a ≤ 9223372036854775807 → 
    (l.length = 0 ∨ ∃ b off, ao = some ⟨b, off, none⟩ ∧ ChunksAt w b off l) →
    Calls Tryz.prog 5 #[.slice ao l.length cap, .int .i64 a] w fun e w' => e = .returned (.bool true) ∧ Below w.heap.size w w'

set_option maxRecDepth 100000 in
theorem takenLifted (X : TakenWalk) (os : Os) (started : os.Started) (H : Type) (enc : TypeId × Value → H) :
    ReturnsInHanded {} Tryz.checked os 5 .any (Rows.takenSpec.pre6 enc Tryz.prog Tryz.f5 Rows.takenRow.domain false) (Rows.takenSpec.post enc Tryz.prog Tryz.f5 false true false false) := by
  refine returnsInHanded_of_change_sized (C := Tryz.checked) own started (by kernel_rfl) Tryz.func5
    (ChangeSpec.witness6 (enc := enc) (C := Tryz.checked) false ⟨#[], #[.slice none 0 0, .int .i64 0], []⟩ 8 (by kernel_rfl) (by kernel_rfl) (by kernel_rfl) (by kernel_rfl)) ?_
  intro W base args ds gs before hval0 hW _ hsz0 _
  have hsz : (DataW.weightsEach Tryz.prog (Tryz.f5.params.toList ++ Rows.takenSpec.plain.varTypes Tryz.prog) (ds ++ gs)).all (· ≤ reachBytes) = true := hsz0
  have hval : ∀ (j : Nat) t v, Tryz.f5.params[j]? = some t → args[j]? = some v → Value.okWide Tryz.prog W .any base t v := hval0
  have hW' := hW
  obtain ⟨p, q, hA0, hV, rfl, hfz, hnd⟩ := hW
  have hA : DataW.TrodAll enc Tryz.prog W 0 (fun _ => true) true Tryz.f5.params.toList args.toList ds p := hA0
  rw [Tryz.params5] at hA hval hsz
  obtain ⟨v0, v1, d0, d1, p0, p1, rfl, rfl, rfl, h0, h1⟩ := trodAll_two hA
  obtain ⟨rfl, rfl⟩ := trodVars_none hV
  obtain ⟨a0, len0, cap0, rfl⟩ := okWide_slice Tryz.underlying22 (hval 0 22 v0 rfl rfl)
  have k0 := h0
  have lt0 : ∀ x ∈ p0, x.block < W.heap.size := by obtain ⟨m, hm⟩ := k0; exact DataW.trod_lt m _ _ _ hm
  obtain ⟨l, hl, hl1, hl2, hl3⟩ := chunks_in h0 hsz rfl rfl
  obtain ⟨n1, rfl, rfl, rfl, hn1⟩ := open_int Tryz.underlying3 (hval 1 3 v1 rfl rfl) h1
  subst hl
  clear hA0 hval0
  refine (X a0 cap0 l n1 W (by omega) hl2 (bounds_i64 hn1).1 (bounds_i64 hn1).2 hl3).mono fun e W' ⟨he, bel⟩ => ?_
  subst he
  exact ⟨_, rfl, _, _, _, [], _, [], hW', trodAll_mk1 (shut_bool Tryz.underlying4 _), (trodAll_mk2 (Below.trod laidOut (by kernel_rfl) (of_decide_eq_true (by kernel_rfl)) k0 bel lt0) (shut_int Tryz.underlying3 hn1)), rfl, bel.frame _, fun h => by cases h⟩

theorem takenOver (X : TakenWalk) : Rows.takenRow.holds Tryz.pinned (OpenSpec.ofChange Rows.takenSpec) :=
  OpenClaim.holds_of_wide 5 Tryz.f5 rfl rfl rfl rfl rfl rfl rfl ⟨rfl, rfl, rfl, rfl, rfl⟩ rfl rfl rfl rfl rfl (by kernel_rfl) Tryz.func5 (by kernel_rfl)
    (of_decide_eq_true (by kernel_rfl)) (by unfold Func.isWrapper; first | (rw [if_pos (by decide +kernel)]; kernel_rfl) | (rw [if_neg (by decide +kernel)]; exact ⟨rfl, rfl⟩))
    (fun os started H enc _ => takenLifted X os started H enc)

end Go.Proofs.YtcipkfhpcbddiaaGreat

/- The names of a database and its record: what every word keeps. No walk. -/
namespace Go.Proofs.YtcipkfhpcbddiaaGreat
open Go.RowKit

theorem has_mono {l m : List ByteArray} {x : ByteArray} (h : hasF l x = true) : hasF (l ++ m) x = true := by
  unfold hasF at h ⊢; rw [List.any_append, h]; rfl
theorem has_last (l : List ByteArray) (x : ByteArray) : hasF (l ++ [x]) x = true := by
  unfold hasF; rw [List.any_append]; simp
theorem has_congr {l : List ByteArray} {x y : ByteArray} (e : (x.toList == y.toList) = true) (h : hasF l x = true) : hasF l y = true := by
  have e' : x.toList = y.toList := by simpa using e
  unfold hasF at h ⊢; rw [← e']; exact h

/-- A statement that was recorded. -/
structure StOk (P : ByteArray → Prop) (L C : List ByteArray) (s : St) : Prop where
  kind : s.kind = 1 ∨ (2 ≤ s.kind ∧ s.kind ≤ 5)
  syms : ∀ x ∈ s.symbols, P x
  lab : (2 ≤ s.kind ∧ s.kind ≤ 5) → P s.label ∧ isLabelF s.label = true ∧ hasF L s.label = true
  code : (2 ≤ s.kind ∧ s.kind ≤ 5) → ∃ c r, s.symbols = c :: r ∧ hasF C c = true
  two : s.kind = 2 → s.symbols.length = 2
theorem StOk.mono {P : ByteArray → Prop} {L C : List ByteArray} {s : St} (h : StOk P L C s) (L' C' : List ByteArray) (hL : ∀ x, hasF L x = true → hasF L' x = true) (hC : ∀ x, hasF C x = true → hasF C' x = true) : StOk P L' C' s :=
  ⟨h.kind, h.syms, fun k => ⟨(h.lab k).1, (h.lab k).2.1, hL _ (h.lab k).2.2⟩, fun k => by obtain ⟨c, r, e1, e2⟩ := h.code k; exact ⟨c, r, e1, hC _ e2⟩, h.two⟩
theorem StOk.til {P : ByteArray → Prop} {L C : List ByteArray} {s : St} (h : StOk P L C s) (n : Nat) : StOk P L C { s with til := n } := ⟨h.kind, h.syms, h.lab, h.code, h.two⟩

/-- No two of the record have one label. -/
def Dif (l : List St) : Prop := ∀ (i j : Nat) s t, i < j → l[i]? = some s → l[j]? = some t → s.kind ≠ 1 → t.kind ≠ 1 → (s.label.toList == t.label.toList) = false

structure Nm (P : ByteArray → Prop) (d : Db) : Prop where
  lab : ∀ x ∈ d.labels, P x
  con : ∀ x ∈ d.constants, P x
  var : ∀ x ∈ d.variables, P x
  act : ∀ x ∈ d.active, P x
  typ : ∀ x ∈ d.typed, P x
  sym : ∀ x ∈ d.symbols, P x
  sts : ∀ s ∈ d.sts, StOk P d.labels d.constants s
  kind : 0 ≤ d.kind ∧ d.kind ≤ 8
  here : (2 ≤ d.kind ∧ d.kind ≤ 6) → P d.label ∧ isLabelF d.label = true ∧ hasF d.labels d.label = true ∧ ∀ s ∈ d.sts, s.kind ≠ 1 → (s.label.toList == d.label.toList) = false
  head : (2 ≤ d.kind ∧ d.kind ≤ 5) → ∀ c r, d.symbols = c :: r → hasF d.constants c = true
  two : d.kind = 2 → d.symbols.length ≤ 2
  none : (d.kind = 0 ∨ d.kind = 6) → d.symbols = []
  diff : Dif d.sts
  prf : d.kind ≠ 5 → d.inProof = false

theorem endSts_get (l : List St) (b i : Nat) : (endSts l b)[i]? = (l[i]?).map (fun s => if b ≤ i ∧ i < l.length then endSt l.length s else s) := by
  unfold endSts endTo; rw [List.getElem?_mapIdx]
theorem endSt_same (N : Nat) (s : St) : (endSt N s).kind = s.kind ∧ (endSt N s).label = s.label ∧ (endSt N s).symbols = s.symbols := by
  unfold endSt; split <;> exact ⟨rfl, rfl, rfl⟩
theorem endSts_back {l : List St} {b i : Nat} {s : St} (h : (endSts l b)[i]? = some s) : ∃ s', l[i]? = some s' ∧ s.kind = s'.kind ∧ s.label = s'.label ∧ s.symbols = s'.symbols := by
  rw [endSts_get] at h
  cases hs : l[i]? with
  | none => rw [hs] at h; cases h
  | some s' =>
    rw [hs] at h
    simp only [Option.map_some, Option.some.injEq] at h
    refine ⟨s', rfl, ?_⟩
    subst h
    split
    · exact endSt_same _ _
    · exact ⟨rfl, rfl, rfl⟩
theorem endSts_ok {P : ByteArray → Prop} {L C : List ByteArray} {l : List St} (h : ∀ s ∈ l, StOk P L C s) (b : Nat) : ∀ s ∈ endSts l b, StOk P L C s := by
  intro s hs
  obtain ⟨i, hi⟩ := List.getElem?_of_mem hs
  obtain ⟨s', h1, h2, h3, h4⟩ := endSts_back hi
  have k := h s' (List.mem_of_getElem? h1)
  refine ⟨?_, ?_, ?_, ?_, ?_⟩
  · rw [h2]; exact k.kind
  · rw [h4]; exact k.syms
  · rw [h2, h3]; exact k.lab
  · rw [h2, h4]; exact k.code
  · rw [h2, h4]; exact k.two
theorem endSts_dif {l : List St} (h : Dif l) (b : Nat) : Dif (endSts l b) := by
  intro i j s t hij hs ht k1 k2
  obtain ⟨s', a1, a2, a3, a4⟩ := endSts_back hs
  obtain ⟨t', b1, b2, b3, b4⟩ := endSts_back ht
  rw [a3, b3]
  exact h i j s' t' hij a1 b1 (by rw [← a2]; exact k1) (by rw [← b2]; exact k2)
theorem dif_snoc {l : List St} (h : Dif l) (u : St) (hu : u.kind ≠ 1 → ∀ s ∈ l, s.kind ≠ 1 → (s.label.toList == u.label.toList) = false) : Dif (l ++ [u]) := by
  intro i j s t hij hs ht k1 k2
  have hjl : j < (l ++ [u]).length := (List.getElem?_eq_some_iff.1 ht).1
  simp only [List.length_append, List.length_singleton] at hjl
  rw [List.getElem?_append_left (by omega)] at hs
  by_cases hj : j < l.length
  · rw [List.getElem?_append_left hj] at ht
    exact h i j s t hij hs ht k1 k2
  · have e : j = l.length := by omega
    subst e
    simp at ht
    subst ht
    exact hu k2 s (List.mem_of_getElem? hs) k1
theorem addVars_P {P : ByteArray → Prop} (l v : List ByteArray) (hv : ∀ x ∈ v, P x) (hl : ∀ x ∈ l, P x) : ∀ x ∈ addVarsTo v l, P x := by
  unfold addVarsTo
  induction l generalizing v with
  | nil => exact hv
  | cons a l ih =>
    simp only [List.foldl_cons]
    refine ih _ ?_ (fun x hx => hl x (List.mem_cons_of_mem _ hx))
    split
    · exact hv
    · intro x hx
      rcases List.mem_append.1 hx with hx | hx
      · exact hv x hx
      · rw [List.mem_singleton.1 hx]; exact hl a (by simp)

theorem mem_take_P {P : ByteArray → Prop} {l : List ByteArray} (h : ∀ x ∈ l, P x) (n : Nat) : ∀ x ∈ l.take n, P x := fun x hx => h x (List.mem_of_mem_take hx)
theorem mem_snoc_P {P : ByteArray → Prop} {l : List ByteArray} (h : ∀ x ∈ l, P x) {y : ByteArray} (hy : P y) : ∀ x ∈ l ++ [y], P x := fun x hx => by
  rcases List.mem_append.1 hx with hx | hx
  · exact h x hx
  · rw [List.mem_singleton.1 hx]; exact hy
theorem mem_app_P {P : ByteArray → Prop} {l m : List ByteArray} (h : ∀ x ∈ l, P x) (h2 : ∀ x ∈ m, P x) : ∀ x ∈ l ++ m, P x := fun x hx => (List.mem_append.1 hx).elim (h x) (h2 x)

theorem Nm.label {P : ByteArray → Prop} {d : Db} (h : Nm P d) (x : ByteArray) (hx : dollarF x = false → P x) (h0 : d.kind = 0) : Nm P (takeLabelF d x).2 := by
  unfold takeLabelF
  split
  · exact h
  · next hd =>
    split
    · exact h
    · next hl =>
      split
      · exact h
      · next ht =>
        have hP := hx (by simpa using hd)
        have hnl : hasF d.labels x = false := by
          unfold isTakenF at ht
          cases e : hasF d.labels x
          · rfl
          · rw [e] at ht; simp at ht
        refine ⟨mem_snoc_P h.lab hP, h.con, h.var, h.act, h.typ, h.sym, fun s hs => (h.sts s hs).mono _ _ (fun y hy => has_mono hy) (fun y hy => hy), by simp, ?_, ?_, ?_, ?_, h.diff, fun _ => h.prf (by omega)⟩
        · intro _
          refine ⟨hP, by simpa using hl, has_last _ _, ?_⟩
          intro s hs hk
          cases e : (s.label.toList == x.toList)
          · rfl
          · have hso := h.sts s hs
            have := has_congr e ((hso.lab (hso.kind.resolve_left hk)).2.2)
            rw [hnl] at this; cases this
        · intro hk; simp at hk
        · intro hk; simp at hk
        · intro _; exact h.none (Or.inl h0)
theorem Nm.first {P : ByteArray → Prop} {d : Db} (h : Nm P d) (x : ByteArray) (hx : dollarF x = false → P x) (h0 : d.kind = 0) : Nm P (takeFirstF d x).2 := by
  have hno := h.none (Or.inl h0)
  unfold takeFirstF
  split
  · exact ⟨h.lab, h.con, h.var, h.act, h.typ, h.sym, h.sts, h.kind, h.here, h.head, h.two, h.none, h.diff, h.prf⟩
  · split
    · split
      · exact h
      · unfold endBothF
        split
        · exact ⟨h.lab, h.con, h.var, mem_take_P h.act _, mem_take_P h.typ _, h.sym, h.sts, h.kind, h.here, h.head, h.two, h.none, h.diff, h.prf⟩
        · refine ⟨h.lab, h.con, h.var, mem_take_P h.act _, mem_take_P h.typ _, h.sym, endSts_ok h.sts _, h.kind, ?_, h.head, h.two, h.none, endSts_dif h.diff _, h.prf⟩
          intro hk
          have hk' : 2 ≤ d.kind ∧ d.kind ≤ 6 := hk
          omega
    · have mk : ∀ k : Int, 0 ≤ k ∧ k ≤ 8 → k = 7 ∨ k = 8 ∨ k = 1 → Nm P { d with kind := k } := by
        intro k hk hk2
        refine ⟨h.lab, h.con, h.var, h.act, h.typ, h.sym, h.sts, hk, ?_, ?_, ?_, ?_, h.diff, fun _ => h.prf (by omega)⟩
        · intro (hh : 2 ≤ k ∧ k ≤ 6); omega
        · intro (hh : 2 ≤ k ∧ k ≤ 5); omega
        · intro (hh : k = 2); omega
        · intro _; exact hno
      split
      · split
        · exact h
        · exact mk 7 (by omega) (by omega)
      · split
        · exact mk 8 (by omega) (by omega)
        · split
          · exact mk 1 (by omega) (by omega)
          · split
            · exact h
            · exact h.label x hx h0
theorem Nm.keyword {P : ByteArray → Prop} {d : Db} (h : Nm P d) (x : ByteArray) (h6 : d.kind = 6) : Nm P (takeKeywordF d x).2 := by
  have hno := h.none (Or.inr h6)
  have mk : ∀ k : Int, 2 ≤ k ∧ k ≤ 5 → Nm P { d with kind := k } := by
    intro k hk
    refine ⟨h.lab, h.con, h.var, h.act, h.typ, h.sym, h.sts, ⟨by show 0 ≤ k; omega, by show k ≤ 8; omega⟩, ?_, ?_, ?_, ?_, h.diff, fun _ => h.prf (by omega)⟩
    · intro _; exact h.here (by omega)
    · intro _ c r hc
      have hc' : d.symbols = c :: r := hc
      rw [hno] at hc'; cases hc'
    · intro _; show d.symbols.length ≤ 2; rw [hno]; simp
    · intro (hh : k = 0 ∨ k = 6); omega
  unfold takeKeywordF
  split
  · exact mk 2 (by omega)
  · split
    · exact mk 3 (by omega)
    · split
      · exact mk 4 (by omega)
      · split
        · exact mk 5 (by omega)
        · exact h
theorem Nm.done {P : ByteArray → Prop} {d : Db} (hl : ∀ x ∈ d.labels, P x) (hc : ∀ x ∈ d.constants, P x) (hv : ∀ x ∈ d.variables, P x) (ha : ∀ x ∈ d.active, P x) (ht : ∀ x ∈ d.typed, P x) (hs : ∀ s ∈ d.sts, StOk P d.labels d.constants s) (hd : Dif d.sts) (k : Int) (hk : k = 0) (b : ByteArray) (pr : List (ByteArray × Pl)) :
    Nm P { d with kind := k, label := b, symbols := [], inProof := false, proof := pr } := by
  subst hk
  exact ⟨hl, hc, hv, ha, ht, fun x hx => by simp at hx, hs, by simp, fun h => by simp at h, fun h => by simp at h, fun h => by simp at h, fun _ => rfl, hd, fun _ => rfl⟩
theorem getD1_mem (l : List ByteArray) (h : 1 < l.length) : l.getD 1 ⟨#[]⟩ ∈ l := by
  rw [List.getD_eq_getElem?_getD, List.getElem?_eq_getElem h]; exact List.getElem_mem h
theorem Nm.fin {P : ByteArray → Prop} {d : Db} (h : Nm P d) (p : Pl) (h0 : d.kind ≠ 0) (h6 : d.kind ≠ 6) : Nm P (endF d p).2 := by
  have hk := h.kind
  unfold endF
  split
  · exact h
  · next hle =>
    split
    · exact h
    · unfold declareF
      split
      · exact Nm.done (d := { d with constants := d.constants ++ d.symbols }) h.lab (mem_app_P h.con h.sym) h.var h.act h.typ (fun s hs => (h.sts s hs).mono _ _ (fun y hy => hy) (fun y hy => has_mono hy)) h.diff 0 rfl _ _
      · split
        · exact Nm.done (d := varsAt d d.symbols.length) h.lab h.con (addVars_P _ _ h.var (mem_take_P h.sym _)) (mem_app_P h.act h.sym) h.typ h.sts h.diff 0 rfl _ _
        · next h7 h8 =>
          have hk5 : d.kind = 1 ∨ (2 ≤ d.kind ∧ d.kind ≤ 5) := by
            have a7 : d.kind ≠ 7 := by simpa using h7
            have a8 : d.kind ≠ 8 := by simpa using h8
            omega
          have hlen : leastF d ≤ d.symbols.length := by omega
          have hnew : StOk P d.labels d.constants ⟨d.kind, d.label, d.symbols, d.proof, p, 0⟩ := by
            refine ⟨hk5, h.sym, ?_, ?_, ?_⟩
            · intro (hh : 2 ≤ d.kind ∧ d.kind ≤ 5)
              have hr := h.here (by omega)
              exact ⟨hr.1, hr.2.1, hr.2.2.1⟩
            · intro (hh : 2 ≤ d.kind ∧ d.kind ≤ 5)
              have h1 : 1 ≤ leastF d := by unfold leastF; split <;> omega
              cases hsy : d.symbols with
              | nil => rw [hsy] at hlen; simp at hlen; omega
              | cons c r => exact ⟨c, r, rfl, h.head hh c r hsy⟩
            · intro (hh : d.kind = 2)
              have h2 : leastF d = 2 := by unfold leastF; rw [if_pos (Or.inr (by rw [hh]; rfl))]
              have := h.two hh
              show d.symbols.length = 2
              omega
          have hsts : ∀ s ∈ d.sts ++ [⟨d.kind, d.label, d.symbols, d.proof, p, 0⟩], StOk P d.labels d.constants s := by
            intro s hs
            rcases List.mem_append.1 hs with hs | hs
            · exact h.sts s hs
            · rw [List.mem_singleton.1 hs]; exact hnew
          have hdif : Dif (d.sts ++ [⟨d.kind, d.label, d.symbols, d.proof, p, 0⟩]) := by
            refine dif_snoc h.diff _ ?_
            intro (hh : d.kind ≠ 1) s hs hs1
            exact (h.here (by omega)).2.2.2 s hs hs1
          unfold typeIt addSt
          split
          · next ht => exact Nm.done (d := { d with typed := d.typed ++ [d.symbols.getD 1 ⟨#[]⟩], sts := d.sts ++ [⟨d.kind, d.label, d.symbols, d.proof, p, 0⟩] }) h.lab h.con h.var h.act (mem_snoc_P h.typ (h.sym _ (getD1_mem _ ht.2))) hsts hdif 0 rfl _ _
          · exact Nm.done (d := { d with sts := d.sts ++ [⟨d.kind, d.label, d.symbols, d.proof, p, 0⟩] }) h.lab h.con h.var h.act h.typ hsts hdif 0 rfl _ _
theorem Nm.take {P : ByteArray → Prop} {d : Db} (h : Nm P d) (x : ByteArray) (p : Pl) (hx : dollarF x = false → P x) : Nm P (takeF d x p).2 := by
  unfold takeF
  split
  · next h0 => exact h.first x hx (by simpa using h0)
  · next h0 =>
    split
    · next h6 => exact h.keyword x (by simpa using h6)
    · next h6 =>
      have h0' : d.kind ≠ 0 := by simpa using h0
      have h6' : d.kind ≠ 6 := by simpa using h6
      split
      · exact h.fin p h0' h6'
      · split
        · unfold beginProofF
          split
          · exact h
          · next hb _ => exact ⟨h.lab, h.con, h.var, h.act, h.typ, h.sym, h.sts, h.kind, h.here, h.head, h.two, h.none, h.diff, fun hk => absurd (show d.kind = 5 by simpa using hb.2.1) hk⟩
        · split
          · exact h
          · next hd =>
            split
            · exact ⟨h.lab, h.con, h.var, h.act, h.typ, h.sym, h.sts, h.kind, h.here, h.head, h.two, h.none, h.diff, h.prf⟩
            · split
              · next hc =>
                have hc0 : checkSymbolF d x = 0 := by simpa using hc
                refine ⟨h.lab, h.con, h.var, h.act, h.typ, mem_snoc_P h.sym (hx (by simpa using hd)), h.sts, h.kind, h.here, ?_, ?_, ?_, h.diff, h.prf⟩
                · intro (hk : 2 ≤ d.kind ∧ d.kind ≤ 5) c r (he : d.symbols ++ [x] = c :: r)
                  cases hs : d.symbols with
                  | nil =>
                    rw [hs] at he
                    simp at he
                    obtain ⟨rfl, -⟩ := he
                    unfold checkSymbolF at hc0
                    rw [if_neg (by simp; omega), if_neg (by simp; omega), if_neg (by simp; omega), if_pos (by rw [hs]; rfl)] at hc0
                    unfold checkTypecodeF at hc0
                    cases e : hasF d.constants x
                    · rw [e] at hc0; simp at hc0
                    · rfl
                  | cons c' r' =>
                    rw [hs] at he
                    simp at he
                    rw [← he.1]; exact h.head hk c' r' hs
                · intro (hk : d.kind = 2)
                  show (d.symbols ++ [x]).length ≤ 2
                  rw [List.length_append]
                  by_cases hz : d.symbols.length = 0
                  · rw [hz]; simp
                  · unfold checkSymbolF at hc0
                    rw [if_neg (by simp; omega), if_neg (by simp; omega), if_neg (by simp; omega), if_neg hz, if_pos (by simp; omega)] at hc0
                    unfold checkFloatingF at hc0
                    by_cases hl : 1 < d.symbols.length
                    · rw [if_pos hl] at hc0; simp at hc0
                    · simp; omega
                · intro (hk : d.kind = 0 ∨ d.kind = 6); omega
              · exact h
theorem Nm.empty {P : ByteArray → Prop} : Nm P emptyDb := by
  refine ⟨?_, ?_, ?_, ?_, ?_, ?_, ?_, ?_, ?_, ?_, ?_, fun _ => rfl, ?_, fun _ => rfl⟩ <;> simp [emptyDb, Dif]
theorem readTo_nm {P : ByteArray → Prop} (n s : ByteArray) (hP : ∀ k, k ≤ s.size → isWordF (nextF s k).1 = true → dollarF (nextF s k).1.text = false → P (nextF s k).1.text) (f : Nat) : ∀ k d, k ≤ s.size → Nm P d → Nm P (readTo n s f k d).2 := by
  induction f with
  | zero => intro k d _ h; exact h
  | succ f ih =>
    intro k d hk h
    have hl := nextF_le s k hk
    rw [readTo]
    split
    · next hw =>
      split
      · exact ih _ _ hl.2.1 (h.take _ _ (hP k hk hw))
      · exact h.take _ _ (hP k hk hw)
    · split
      · split <;> exact h
      · exact h

/-- A word that is no key: printable bytes, none of them '$'. -/
def Wd (x : ByteArray) : Prop := 0 < x.size ∧ ∀ i, i < x.size → plainB (byteAt x i) = true ∧ byteAt x i ≠ 36
theorem wordTo_bytes (d : ByteArray) (f : Nat) : ∀ k i, k ≤ i → i < wordTo d f k → plainB (byteAt d i) = true := by
  induction f with
  | zero => intro k i h1 h2; simp [wordTo] at h2; omega
  | succ f ih =>
    intro k i h1 h2
    rw [wordTo] at h2
    split at h2
    · next hc =>
      by_cases e : i = k
      · subst e; exact hc.2.2
      · exact ih (k + 1) i (by omega) h2
    · omega
theorem runF_plain (d : ByteArray) (k : Nat) (hk : k ≤ d.size) (h : isWordF (runF d k).1 = true) : 0 < (runF d k).1.text.size ∧ ∀ i, i < (runF d k).1.text.size → plainB (byteAt (runF d k).1.text i) = true := by
  unfold runF at h ⊢
  simp only at h ⊢
  have h1 := skip_le d k hk
  have h2 := wordEnd_le d (skip d k) h1.2
  split
  · next hb => rw [if_pos hb] at h; simp [isWordF] at h
  · next hb =>
    rw [if_neg hb] at h
    split
    · next hz => rw [if_pos hz] at h; simp [isWordF] at h
    · next hz =>
      have hsz : (d.extract (skip d k) (wordEnd d (skip d k))).size = wordEnd d (skip d k) - skip d k := by
        rw [ByteArray.size_extract]; omega
      simp only
      rw [hsz]
      refine ⟨by omega, ?_⟩
      intro i hi
      have hbe : byteAt (d.extract (skip d k) (wordEnd d (skip d k))) i = byteAt d (skip d k + i) := by
        rw [byteAt_of _ i (by rw [hsz]; exact hi), byteAt_of d (skip d k + i) (by omega), ByteArray.getElem_extract]
      rw [hbe]
      exact wordTo_bytes d (d.size - skip d k) (skip d k) _ (by omega) (show skip d k + i < wordEnd d (skip d k) by omega)
theorem nextF_run (d : ByteArray) (k : Nat) (hk : k ≤ d.size) (h : isWordF (nextF d k).1 = true) : ∃ j, j ≤ d.size ∧ nextF d k = runF d j := by
  unfold nextF at h ⊢
  generalize d.size - k + 1 = f at h ⊢
  induction f generalizing k with
  | zero => simp [nextTo, isWordF] at h
  | succ f ih =>
    have rl := runF_le d k hk
    have cl := commentF_le d (runF d k).2 rl.2.1
    rw [nextTo] at h ⊢
    split at h
    · next h1 =>
      rw [if_pos h1]
      split at h
      · next h2 => rw [if_pos h2]; exact ih _ cl.2 h
      · next h2 => exact absurd h h2
    · next h1 => rw [if_neg h1]; exact ⟨k, hk, rfl⟩
theorem nextF_wd (d : ByteArray) (k : Nat) (hk : k ≤ d.size) (h : isWordF (nextF d k).1 = true) (hd : dollarF (nextF d k).1.text = false) : Wd (nextF d k).1.text := by
  obtain ⟨j, hj, e⟩ := nextF_run d k hk h
  rw [e] at h hd ⊢
  have hp := runF_plain d j hj h
  refine ⟨hp.1, fun i hi => ⟨hp.2 i hi, ?_⟩⟩
  intro h36
  unfold dollarF at hd
  rw [List.any_eq_false] at hd
  exact hd i (List.mem_range.2 hi) (by simp [h36])
theorem rdM_nm (T : ByteArray) : Nm Wd (rdM T).2 := readTo_nm _ T (fun k hk h hd => nextF_wd T k hk h hd) _ 0 _ (Nat.zero_le _) Nm.empty

end Go.Proofs.YtcipkfhpcbddiaaGreat

/- Places changed: what is read, and the rows, change with them and in nothing else. No walk. -/
namespace Go.Proofs.YtcipkfhpcbddiaaGreat
open Go.RowKit

/-- A change of places that leaves columns. -/
structure Pmap (π : Pl → Pl) : Prop where
  none : π noPl = noPl
  col : ∀ p c, π { p with col := c } = { π p with col := c }
  same : ∀ p, (π p).col = p.col
theorem Pmap.add {π : Pl → Pl} (h : Pmap π) (p : Pl) (j : Int) : π { p with col := p.col + j } = { π p with col := (π p).col + j } := by
  rw [h.col, h.same]
def mapWd (π : Pl → Pl) (x : ByteArray × Pl) : ByteArray × Pl := (x.1, π x.2)
def mapSt (π : Pl → Pl) (s : St) : St := { s with proof := s.proof.map (mapWd π), fin := π s.fin }
def mapSts (π : Nat → Pl → Pl) (l : List St) : List St := l.mapIdx (fun i s => mapSt (π i) s)
def mapDb (π : Nat → Pl → Pl) (d : Db) : Db := { d with sts := mapSts π d.sts, proof := d.proof.map (mapWd (π d.sts.length)) }
theorem mapSts_len (π : Nat → Pl → Pl) (l : List St) : (mapSts π l).length = l.length := by simp [mapSts]
theorem mapSts_get (π : Nat → Pl → Pl) (l : List St) (i : Nat) : (mapSts π l)[i]? = (l[i]?).map (mapSt (π i)) := by
  unfold mapSts; rw [List.getElem?_mapIdx]
theorem mapSts_end (π : Nat → Pl → Pl) (l : List St) (b : Nat) : mapSts π (endSts l b) = endSts (mapSts π l) b := by
  apply List.ext_getElem?
  intro i
  rw [mapSts_get]
  unfold endSts endTo
  rw [List.getElem?_mapIdx, List.getElem?_mapIdx, mapSts_get, mapSts_len]
  cases l[i]? with
  | none => rfl
  | some s =>
    simp only [Option.map_some]
    congr 1
    split
    · unfold endSt mapSt
      split <;> rfl
    · rfl
theorem endSts_length (l : List St) (b : Nat) : (endSts l b).length = l.length := endTo_len l b l.length
theorem mapSts_snoc (π : Nat → Pl → Pl) (l : List St) (s : St) : mapSts π (l ++ [s]) = mapSts π l ++ [mapSt (π l.length) s] := by
  unfold mapSts
  rw [List.mapIdx_append]; simp

/-- Nothing of a proof is left when no statement is open. -/
def NoLeft (d : Db) : Prop := d.kind = 0 → d.proof = []
theorem noLeft_take {d : Db} (h : NoLeft d) (x : ByteArray) (p : Pl) : NoLeft (takeF d x p).2 := by
  have key : ∀ d' : Db, d'.proof = d.proof → (d'.kind = 0 → d.kind = 0) → NoLeft d' := fun d' e1 e2 hk => by rw [e1]; exact h (e2 hk)
  unfold takeF
  split
  · next hk =>
    have hk0 : d.kind = 0 := by simpa using hk
    unfold takeFirstF
    split
    · exact key _ rfl (fun _ => hk0)
    · split
      · split
        · exact h
        · unfold endBothF; split <;> exact key _ rfl (fun _ => hk0)
      · split
        · split
          · exact h
          · exact key _ rfl (fun _ => hk0)
        · split
          · exact key _ rfl (fun _ => hk0)
          · split
            · exact key _ rfl (fun _ => hk0)
            · split
              · exact h
              · unfold takeLabelF
                repeat' split
                all_goals first | exact h | exact key _ rfl (fun _ => hk0)
  · next hk0 =>
    split
    · unfold takeKeywordF
      repeat' split
      all_goals first | exact h | exact fun hk => by simp at hk
    · split
      · unfold endF
        split
        · exact h
        · split
          · exact h
          · exact fun _ => rfl
      · split
        · unfold beginProofF
          split
          · exact h
          · exact key _ rfl (fun hk => hk)
        · split
          · exact h
          · split
            · intro hk
              have hk' : d.kind = 0 := hk
              rw [hk'] at hk0; simp at hk0
            · split
              · exact key _ rfl (fun hk => hk)
              · exact h

theorem mapDb_closed (π : Nat → Pl → Pl) (d : Db) (h : d.proof = []) : mapDb π d = { d with sts := mapSts π d.sts } := by
  unfold mapDb; rw [h]; simp

/-- Taking a word changes places, and nothing else. -/
theorem take_map (π : Nat → Pl → Pl) (d : Db) (hl : NoLeft d) (x : ByteArray) (p : Pl) : takeF (mapDb π d) x (π d.sts.length p) = ((takeF d x p).1, mapDb π (takeF d x p).2) := by
  cases hk0 : (d.kind == 0) with
  | true =>
    have hp : d.proof = [] := hl (by simpa using hk0)
    have e0 : takeF (mapDb π d) x (π d.sts.length p) = takeFirstF (mapDb π d) x := by unfold takeF; exact if_pos hk0
    have e1 : takeF d x p = takeFirstF d x := by unfold takeF; exact if_pos hk0
    rw [e0, e1]
    unfold takeFirstF
    split
    · simp [mapDb, hp, mapSts_len]
    · split
      · show (match d.blocks.getLast? with | none => ((9 : Int), mapDb π d) | some p => (0, endBothF (mapDb π d) p)) = _
        cases hb : d.blocks.getLast? with
        | none => rfl
        | some q =>
          simp only
          congr 1
          unfold endBothF
          show (match d.rbl.getLast? with | none => _ | some x => _) = _
          cases hr : d.rbl.getLast? with
          | none => simp [mapDb, endBlockF, hp]
          | some y => simp [mapDb, endBlockF, hp, mapSts_end]
      · split
        · show (if 0 < d.blocks.length then _ else _) = _
          split <;> simp [mapDb, hp]
        · split
          · simp [mapDb, hp]
          · split
            · simp [mapDb, hp]
            · split
              · rfl
              · unfold takeLabelF
                have et : isTakenF (mapDb π d) x = isTakenF d x := rfl
                rw [et]
                repeat' split
                all_goals simp [mapDb, hp]
  | false =>
    cases hk6 : (d.kind == 6) with
    | true =>
      have e0 : takeF (mapDb π d) x (π d.sts.length p) = takeKeywordF (mapDb π d) x := by unfold takeF; rw [if_neg (show ¬ ((mapDb π d).kind == 0) = true by show ¬ (d.kind == 0) = true; rw [hk0]; simp)]; exact if_pos hk6
      have e1 : takeF d x p = takeKeywordF d x := by unfold takeF; rw [if_neg (by rw [hk0]; simp)]; exact if_pos hk6
      rw [e0, e1]
      unfold takeKeywordF
      repeat' split
      all_goals rfl
    | false =>
      have e0 : ∀ q, takeF (mapDb π d) x q = if (x.toList == [36, 46]) = true then endF (mapDb π d) q else if (x.toList == [36, 61]) = true ∧ (d.kind == 5) = true ∧ d.inProof = false then beginProofF (mapDb π d) else if dollarF x = true then (8, mapDb π d) else if d.inProof = true then (0, { mapDb π d with proof := (mapDb π d).proof ++ [(x, q)] }) else if (checkSymbolF d x == 0) = true then (0, { mapDb π d with symbols := d.symbols ++ [x] }) else (checkSymbolF d x, mapDb π d) := by
        intro q
        unfold takeF
        rw [if_neg (show ¬ ((mapDb π d).kind == 0) = true by show ¬ (d.kind == 0) = true; rw [hk0]; simp), if_neg (show ¬ ((mapDb π d).kind == 6) = true by show ¬ (d.kind == 6) = true; rw [hk6]; simp)]
        rfl
      have e1 : takeF d x p = if (x.toList == [36, 46]) = true then endF d p else if (x.toList == [36, 61]) = true ∧ (d.kind == 5) = true ∧ d.inProof = false then beginProofF d else if dollarF x = true then (8, d) else if d.inProof = true then (0, { d with proof := d.proof ++ [(x, p)] }) else if (checkSymbolF d x == 0) = true then (0, { d with symbols := d.symbols ++ [x] }) else (checkSymbolF d x, d) := by
        unfold takeF
        rw [if_neg (by rw [hk0]; simp), if_neg (by rw [hk6]; simp)]
      rw [e0, e1]
      split
      · unfold endF
        show (if (d.symbols.length : Int) < leastF d then _ else if (d.kind == 5) = true ∧ d.inProof = false then _ else _) = _
        split
        · rfl
        · split
          · rfl
          · unfold declareF
            have q7 : ((mapDb π d).kind == 7) = (d.kind == 7) := rfl
            have q8 : ((mapDb π d).kind == 8) = (d.kind == 8) := rfl
            rw [q7, q8]
            cases h7 : (d.kind == 7) with
            | true => simp [mapDb]
            | false =>
              cases h8 : (d.kind == 8) with
              | true => simp [mapDb, varsAt]
              | false =>
                simp only [Bool.false_eq_true, if_false]
                unfold addSt typeIt
                by_cases ht : (d.kind == 2) = true ∧ 1 < d.symbols.length
                · rw [if_pos ht, if_pos (show ((mapDb π d).kind == 2) = true ∧ 1 < (mapDb π d).symbols.length from ht)]
                  simp [mapDb, mapSts_snoc, mapSt]
                · rw [if_neg ht, if_neg (show ¬ (((mapDb π d).kind == 2) = true ∧ 1 < (mapDb π d).symbols.length) from ht)]
                  simp [mapDb, mapSts_snoc, mapSt]
      · split
        · unfold beginProofF
          show (if d.symbols.length = 0 then _ else _) = _
          split <;> rfl
        · split
          · rfl
          · split
            · simp [mapDb, mapWd]
            · split
              · rfl
              · rfl

end Go.Proofs.YtcipkfhpcbddiaaGreat

/- Places changed: the rows. No walk. -/
namespace Go.Proofs.YtcipkfhpcbddiaaGreat
open Go.RowKit

def mapStp (π : Pl → Pl) (s : Stp) : Stp := { s with at_ := π s.at_ }
def mapRw (π : Pl → Pl) (r : Rw) : Rw := { r with at_ := π r.at_ }
def mapFlt (π : Pl → Pl) (f : Flt) : Flt := (f.1, π f.2)
theorem mapFlt_no {π : Pl → Pl} (h : Pmap π) : mapFlt π noFlt = noFlt := by
  unfold mapFlt noFlt
  have := h.none
  unfold noPl at this
  simp only [this]

theorem held_map (π : Nat → Pl → Pl) (l : List St) (n a : Nat) : heldF (mapSts π l) n a = heldF l n a := by
  unfold heldF; rw [mapSts_get]
  cases l[n]? <;> rfl
theorem names_map (π : Nat → Pl → Pl) (l : List St) (t : ByteArray) (a n : Nat) : namesF (mapSts π l) t a n = namesF l t a n := by
  unfold namesF; rw [mapSts_get, held_map]
  cases l[n]? <;> rfl
theorem findH_map (π : Nat → Pl → Pl) (l : List St) (t : ByteArray) (a : Nat) : findHF (mapSts π l) t a = findHF l t a := by
  unfold findHF; rw [mapSts_len]
  congr 1
  funext n
  exact names_map π l t a n
theorem symsAt_map (π : Nat → Pl → Pl) (l : List St) (n : Nat) : symsAt (mapSts π l) n = symsAt l n := by
  unfold symsAt; rw [mapSts_get]
  cases l[n]? <;> rfl
theorem symsOf_map (π : Nat → Pl → Pl) (l : List St) (a : Nat) : symsOfF (mapSts π l) a = symsOfF l a := by
  unfold symsOfF symsTo
  have e1 : essF (mapSts π l) a = essF l a := by
    funext n
    unfold essF; rw [mapSts_get, held_map]
    cases l[n]? <;> rfl
  have e2 : symsAt (mapSts π l) = symsAt l := funext (symsAt_map π l)
  rw [e1, e2, mapSts_len]
theorem hyps_map (π : Nat → Pl → Pl) (l : List St) (a : Nat) : hypsF (mapSts π l) a = hypsF l a := by
  unfold hypsF hypsTo
  have e1 : mandAt (mapSts π l) (symsOfF (mapSts π l) a) a = mandAt l (symsOfF l a) a := by
    funext n
    unfold mandAt; rw [mapSts_get, held_map, symsOf_map]
    cases l[n]? <;> rfl
  rw [e1, mapSts_len]
theorem marks_map (π : Nat → Pl → Pl) (l : List St) (a : Nat) (vs : List ByteArray) : marksF (mapSts π l) a vs = marksF l a vs := by
  unfold marksF
  rw [mapSts_len]
  generalize l.length = k
  induction k with
  | zero => rfl
  | succ k ih =>
    have e : disjF (mapSts π l) a k = disjF l a k := by
      unfold disjF; rw [mapSts_get, held_map]
      cases l[k]? <;> rfl
    rw [marksTo, marksTo, e, ih, symsAt_map]
theorem av_map (π : Nat → Pl → Pl) (l : List St) (a : Nat) : avF (mapSts π l) a = avF l a := by
  unfold avF avTo
  have e1 : avOne (mapSts π l) a = avOne l a := by
    funext n
    unfold avOne; rw [mapSts_get, held_map]
    cases l[n]? <;> rfl
  rw [e1, mapSts_len]

theorem block_map (π : Nat → Pl → Pl) (ρ : Pl → Pl) (hρ : Pmap ρ) (l : List St) (a : Nat) (fin : Pl) (ws : List (ByteArray × Pl)) : ∀ i ns,
    blockL (mapSts π l) a (ρ fin) i (ws.map (mapWd ρ)) ns = (((blockL l a fin i ws ns).1.1, mapFlt ρ (blockL l a fin i ws ns).1.2), (blockL l a fin i ws ns).2) := by
  induction ws with
  | nil => intro i ns; rfl
  | cons x r ih =>
    intro i ns
    obtain ⟨t, p⟩ := x
    rw [List.map_cons]
    show blockL (mapSts π l) a (ρ fin) i ((t, ρ p) :: r.map (mapWd ρ)) ns = _
    rw [blockL, blockL, findH_map]
    split
    · simp only [mapFlt_no hρ]
    · cases findHF l t a with
      | none => rfl
      | some n =>
        simp only
        split
        · rfl
        · exact ih _ _
theorem norm_map (π : Nat → Pl → Pl) (ρ : Pl → Pl) (hρ : Pmap ρ) (l : List St) (a : Nat) (fin : Pl) (ws : List (ByteArray × Pl)) : ∀ acc,
    normF (mapSts π l) a (ρ fin) (ws.map (mapWd ρ)) (acc.map (mapStp ρ)) = ((normF l a fin ws acc).1.map (mapStp ρ), mapFlt ρ (normF l a fin ws acc).2) := by
  induction ws with
  | nil =>
    intro acc
    rw [List.map_nil, normF, normF, List.length_map]
    split
    · rfl
    · rw [mapFlt_no hρ]
  | cons x r ih =>
    intro acc
    obtain ⟨t, p⟩ := x
    rw [List.map_cons]
    show normF (mapSts π l) a (ρ fin) ((t, ρ p) :: r.map (mapWd ρ)) (acc.map (mapStp ρ)) = _
    rw [normF, normF, findH_map]
    split
    · have := ih (acc ++ [⟨1, 0, p⟩])
      rw [List.map_append] at this
      exact this
    · cases findHF l t a with
      | none => rfl
      | some n =>
        simp only
        have := ih (acc ++ [⟨2, n, p⟩])
        rw [List.map_append] at this
        exact this
def mapCmp (ρ : Pl → Pl) (c : Cmp) : Cmp := { c with steps := c.steps.map (mapStp ρ) }
theorem let_map (ρ : Pl → Pl) (c : Cmp) (n : Nat) (p : Pl) : takeLetF (mapCmp ρ c) n (ρ p) = ((takeLetF c n p).1, mapCmp ρ (takeLetF c n p).2) := by
  unfold takeLetF
  split
  · unfold endNumF
    show (if c.digits * 20 + (n - 64) - 1 < c.names.length then _ else if c.digits * 20 + (n - 64) - 1 - c.names.length < c.tagged.length then _ else _) = _
    split
    · simp [mapCmp, addStepF, mapStp]
    · split
      · simp [mapCmp, addStepF, mapStp]
      · rfl
  · split
    · unfold takeDigF
      show (_, if c.digits ≤ c.names.length + c.tagged.length then _ else _) = _
      split <;> rfl
    · show (if n = 90 ∧ c.behind = true then _ else if n = 63 ∧ c.digits = 0 then _ else _) = _
      split
      · simp [mapCmp]
      · split
        · simp [mapCmp, addStepF, mapStp]
        · rfl
theorem word_map (ρ : Pl → Pl) (hρ : Pmap ρ) (t : ByteArray) (p : Pl) (f : Nat) : ∀ j c, wordLet t (ρ p) f j (mapCmp ρ c) = (mapFlt ρ (wordLet t p f j c).1, mapCmp ρ (wordLet t p f j c).2) := by
  induction f with
  | zero => intro j c; rw [wordLet, wordLet, mapFlt_no hρ]
  | succ f ih =>
    intro j c
    have e : ({ ρ p with col := (ρ p).col + (j : Int) } : Pl) = ρ { p with col := p.col + (j : Int) } := (hρ.add p j).symm
    rw [wordLet, wordLet, e, let_map]
    simp only
    split
    · split
      · exact ih _ _
      · rfl
    · rw [mapFlt_no hρ]
theorem words_map (ρ : Pl → Pl) (hρ : Pmap ρ) (ws : List (ByteArray × Pl)) : ∀ c, wordsLF (ws.map (mapWd ρ)) (mapCmp ρ c) = (mapFlt ρ (wordsLF ws c).1, mapCmp ρ (wordsLF ws c).2) := by
  induction ws with
  | nil => intro c; rw [List.map_nil, wordsLF, wordsLF, mapFlt_no hρ]
  | cons x r ih =>
    intro c
    obtain ⟨t, p⟩ := x
    rw [List.map_cons]
    show wordsLF ((t, ρ p) :: r.map (mapWd ρ)) (mapCmp ρ c) = _
    have e : wordLF t (ρ p) (mapCmp ρ c) = (mapFlt ρ (wordLF t p c).1, mapCmp ρ (wordLF t p c).2) := word_map ρ hρ t p _ 0 c
    rw [wordsLF, wordsLF, e]
    simp only
    show (if ((wordLF t p c).1.1 == 0) = true then _ else _) = _
    split
    · exact ih _
    · rfl
theorem prf_map (π : Nat → Pl → Pl) (ρ : Pl → Pl) (hρ : Pmap ρ) (l : List St) (a : Nat) (s : St) : prfF (mapSts π l) a (mapSt ρ s) = ((prfF l a s).1.map (mapStp ρ), mapFlt ρ (prfF l a s).2) := by
  have hc : isComp (mapSt ρ s) = isComp s := by
    unfold isComp mapSt
    simp only
    cases s.proof with
    | nil => rfl
    | cons x r => rfl
  unfold prfF
  rw [hc]
  split
  · unfold compF
    have hR : compR (mapSts π l) a (mapSt ρ s) = (mapFlt ρ (compR l a s).1, mapCmp ρ (compR l a s).2) := by
      have hd : ∀ k, (mapSt ρ s).proof.drop k = (s.proof.drop k).map (mapWd ρ) := fun k => by unfold mapSt; simp only [List.map_drop]
      have hf : (mapSt ρ s).fin = ρ s.fin := rfl
      unfold compR
      rw [hyps_map, hf]
      simp only [hd]
      rw [block_map π ρ hρ]
      simp only
      unfold onw
      show (if ((blockL l a s.fin 1 (s.proof.drop 1) (hypsF l a)).1.2.1 == 0) = true then _ else _) = _
      split
      · exact words_map ρ hρ _ ⟨_, [], [], 0, false⟩
      · rfl
    rw [hR]
    unfold compE
    show (if ((compR l a s).1.1 == 0) = true then (if (compR l a s).2.digits = 0 then (if ((compR l a s).2.steps.map (mapStp ρ)).length = 0 then _ else _) else _) else _) = _
    rw [List.length_map]
    split
    · split
      · split
        · rfl
        · rw [mapFlt_no hρ]; rfl
      · rfl
    · rfl
  · exact norm_map π ρ hρ l a s.fin s.proof []

theorem getD_map (π : Nat → Pl → Pl) (l : List St) (n : Nat) (h : n < l.length) : (mapSts π l).getD n stD = mapSt (π n) (l.getD n stD) := by
  rw [List.getD_eq_getElem?_getD, List.getD_eq_getElem?_getD, mapSts_get, List.getElem?_eq_getElem h]; rfl
theorem fit_map (ρ : Pl → Pl) (s : St) (e : List ByteArray) (S : Sbs) : fitF (mapSt ρ s) e S = fitF s e S := rfl
theorem fitAll_map (π : Nat → Pl → Pl) (l : List St) (hs : List Nat) (h : ∀ x ∈ hs, x < l.length) : ∀ es S, fitAll (mapSts π l) hs es S = fitAll l hs es S := by
  induction hs with
  | nil => intro es S; simp [fitAll]
  | cons x r ih =>
    intro es S
    cases es with
    | nil => simp [fitAll]
    | cons e es =>
      rw [fitAll, fitAll, getD_map π l x (h x (by simp)), fit_map]
      simp only [ih (fun y hy => h y (by simp [hy]))]
theorem apply_map (π : Nat → Pl → Pl) (l : List St) (n : Nat) (h : n < l.length) (vs : List ByteArray) (ms : List Bool) (th : List (List ByteArray)) : applyF (mapSts π l) n vs ms th = applyF l n vs ms th := by
  have ek : ∀ S, keepF (mapSts π l) n S vs ms = keepF l n S vs ms := fun S => by unfold keepF keepP; rw [marks_map]
  unfold applyF applyR
  rw [hyps_map, getD_map π l n h, fitAll_map π l _ (fun x hx => hypsF_lt hx)]
  simp only [ek]
  rfl
theorem show_map (π : Nat → Pl → Pl) (ρ : Pl → Pl) (l : List St) (vs : List ByteArray) (ms : List Bool) (sh th : List (List ByteArray)) (s : Stp) (h : (s.kind == 3) = false → s.number < l.length) : showF (mapSts π l) vs ms sh th (mapStp ρ s) = showF l vs ms sh th s := by
  unfold showF
  show (if (s.kind == 3) = true then _ else _) = _
  cases hk : (s.kind == 3) with
  | true => rfl
  | false =>
    have hn := h hk
    have e : isAt (mapSts π l) s.number = isAt l s.number := by unfold isAt; rw [mapSts_get]; cases l[s.number]? <;> rfl
    simp only [Bool.false_eq_true, if_false]
    show (if isAt (mapSts π l) s.number = true then _ else _) = _
    rw [e]
    show (if isAt l s.number = true then (applyF (mapSts π l) s.number vs ms th, th.take (th.length - (hypsF (mapSts π l) s.number).length)) else ((0, ((mapSts π l).getD s.number stD).symbols), th)) = _
    rw [apply_map π l _ hn, hyps_map, getD_map π l _ hn]
    rfl
theorem playAll_map (π : Nat → Pl → Pl) (ρ : Pl → Pl) (hρ : Pmap ρ) (l : List St) (vs : List ByteArray) (ms : List Bool) (fin : Pl) (goal : List ByteArray) (steps : List Stp) (h : ∀ s ∈ steps, (s.kind == 3) = false → s.number < l.length) :
    ∀ S, playAll (mapSts π l) vs ms (ρ fin) goal (steps.map (mapStp ρ)) S = mapFlt ρ (playAll l vs ms fin goal steps S) := by
  induction steps with
  | nil =>
    intro S
    rw [List.map_nil, playAll, playAll]
    unfold leftF
    split
    · rfl
    · split
      · rw [mapFlt_no hρ]
      · rfl
    · rfl
  | cons s r ih =>
    intro S
    have e : playF (mapSts π l) vs ms S (mapStp ρ s) = playF l vs ms S s := by unfold playF; rw [show_map π ρ l vs ms S.1 S.2 s (h s (by simp))]
    rw [List.map_cons, playAll, playAll, e]
    split
    · exact ih (fun y hy => h y (by simp [hy])) _
    · rfl
theorem unk_map (ρ : Pl → Pl) (steps : List Stp) : unkF (steps.map (mapStp ρ)) = unkF steps := by
  unfold unkF
  rw [List.length_map]
  congr 1
  funext i
  rw [List.getElem?_map]
  cases steps[i]? <;> rfl
theorem rest_map (ρ : Pl → Pl) (L : List Rw) (steps : List Stp) : restF L (steps.map (mapStp ρ)) = restF L steps := by
  unfold restF
  rw [List.all_map]
  rfl
theorem judge_map (π : Nat → Pl → Pl) (ρ : Pl → Pl) (hρ : Pmap ρ) (l : List St) (n : Nat) (ok : RecOk l) (hn : n < l.length) (okp : PrfOk l[n]) (L L' : List Rw) (hL : ∀ k, verF L' k = verF L k) : judgeF (mapSts π l) n (mapSt ρ l[n]) L' = mapRw ρ (judgeF l n l[n] L) := by
  unfold judgeF
  rw [prf_map π ρ hρ, unk_map]
  have ef : (if (unkF (prfF l n l[n]).1).isNone = true ∧ ((mapFlt ρ (prfF l n l[n]).2).1 == 0) = true then playAllF (mapSts π l) n (mapSt ρ l[n]) ((prfF l n l[n]).1.map (mapStp ρ)) else mapFlt ρ (prfF l n l[n]).2) = mapFlt ρ (if (unkF (prfF l n l[n]).1).isNone = true ∧ ((prfF l n l[n]).2.1 == 0) = true then playAllF l n l[n] (prfF l n l[n]).1 else (prfF l n l[n]).2) := by
    show (if (unkF (prfF l n l[n]).1).isNone = true ∧ ((prfF l n l[n]).2.1 == 0) = true then _ else _) = _
    split
    · unfold playAllF
      rw [av_map, marks_map]
      exact playAll_map π ρ hρ l _ _ _ _ _ (prf_ok l n ok hn okp).named _
    · rfl
  rw [ef]
  generalize (if (unkF (prfF l n l[n]).1).isNone = true ∧ ((prfF l n l[n]).2.1 == 0) = true then playAllF l n l[n] (prfF l n l[n]).1 else (prfF l n l[n]).2) = f
  unfold judgeR
  rw [unk_map, rest_map, restF_congr hL]
  show (if (f.1 == 0) = true then _ else _) = _
  split
  · cases unkF (prfF l n l[n]).1 with
    | some u =>
      simp only
      unfold mapRw
      simp only
      congr 1
      rw [List.getElem?_map]
      cases (prfF l n l[n]).1[u]? with
      | none => exact hρ.none.symm
      | some x => rfl
    | none =>
      simp only
      split
      · unfold mapRw; simp only [hρ.none]; rfl
      · unfold mapRw; simp only [hρ.none]; rfl
  · rfl

def mapRws (π : Nat → Pl → Pl) (L : List Rw) : List Rw := L.mapIdx (fun i r => mapRw (π i) r)
theorem ver_map (π : Nat → Pl → Pl) (L : List Rw) (k : Nat) : verF (mapRws π L) k = verF L k := by
  unfold verF mapRws
  rw [List.getD_eq_getElem?_getD, List.getD_eq_getElem?_getD, List.getElem?_mapIdx]
  cases L[k]? <;> rfl
theorem up_map (π : Nat → Pl → Pl) (hπ : ∀ i, Pmap (π i)) (l : List St) (ok : RecOk l) (okp : ∀ i (hi : i < l.length), PrfOk l[i]) (k : Nat) (hk : k ≤ l.length) : rowsUp (mapSts π l) k = mapRws π (rowsUp l k) := by
  induction k with
  | zero => rfl
  | succ k ih =>
    have hlt : k < l.length := by omega
    rw [rowsUp, rowsUp, ih (by omega)]
    have e : oneRow (mapSts π l) k (mapRws π (rowsUp l k)) = mapRw (π k) (oneRow l k (rowsUp l k)) := by
      unfold oneRow
      rw [mapSts_get, List.getElem?_eq_getElem hlt]
      simp only [Option.map_some]
      show (if (l[k].kind == 4) = true then _ else if (l[k].kind == 5) = true then _ else _) = _
      split
      · unfold mapRw; simp only [(hπ k).none]; rfl
      · split
        · exact judge_map π (π k) (hπ k) l k ok hlt (okp k hlt) _ _ (ver_map π _)
        · unfold mapRw zRw; simp only [(hπ k).none]
    rw [e]
    unfold mapRws
    rw [List.mapIdx_append]
    simp [rowsUp_len]

/-- Rows that are told, where a text's own are changed by one map and what follows by another. -/
theorem rows_map (π₁ π₂ : Pl → Pl) (h1 : Pmap π₁) (h2 : Pmap π₂) (S m : List St) (ok : RecOk (S ++ m)) (okp : ∀ i (hi : i < (S ++ m).length), PrfOk (S ++ m)[i]) (okS : RecOk S) (okpS : ∀ i (hi : i < S.length), PrfOk S[i]) :
    ∃ M, rowsF (S ++ m) = rowsF S ++ M ∧ rowsF (mapSts (fun i => if i < S.length then π₁ else π₂) (S ++ m)) = (rowsF S).map (mapRw π₁) ++ M.map (mapRw π₂) := by
  have hπ : ∀ i, Pmap ((fun i => if i < S.length then π₁ else π₂) i) := fun i => by simp only; split <;> assumption
  have hu : ∃ t, rowsUp (S ++ m) (S ++ m).length = rowsUp S S.length ++ t := by
    have h : ∀ k, ∃ t, rowsUp (S ++ m) (S.length + k) = rowsUp S S.length ++ t := by
      intro k
      induction k with
      | zero => exact ⟨[], by rw [Nat.add_zero, up_fore S m okS okpS _ (Nat.le_refl _)]; simp⟩
      | succ k ih =>
        obtain ⟨t, ht⟩ := ih
        exact ⟨_, by rw [← Nat.add_assoc, rowsUp]; conv => lhs; arg 1; rw [ht]
                     rw [List.append_assoc]⟩
    obtain ⟨t, ht⟩ := h m.length
    exact ⟨t, by rw [List.length_append]; exact ht⟩
  obtain ⟨t, ht⟩ := hu
  have hf : ∀ (π : Pl → Pl) (L : List Rw), (L.map (mapRw π)).filter (fun r => !(r.verdict == 0)) = (L.filter (fun r => !(r.verdict == 0))).map (mapRw π) := by
    intro π L
    rw [List.filter_map]; rfl
  refine ⟨t.filter (fun r => !(r.verdict == 0)), ?_, ?_⟩
  · unfold rowsF
    rw [ht, List.filter_append]
  · unfold rowsF
    rw [mapSts_len, up_map _ hπ (S ++ m) ok okp _ (Nat.le_refl _), ht]
    have hs : mapRws (fun i => if i < S.length then π₁ else π₂) (rowsUp S S.length ++ t) = (rowsUp S S.length).map (mapRw π₁) ++ t.map (mapRw π₂) := by
      have hl := rowsUp_len S S.length
      apply List.ext_getElem?
      intro i
      unfold mapRws
      rw [List.getElem?_mapIdx]
      rcases Nat.lt_or_ge i S.length with h | h
      · rw [List.getElem?_append_left (by omega), List.getElem?_append_left (by simp; omega), List.getElem?_map]
        simp only [if_pos h]
      · rw [List.getElem?_append_right (by omega), List.getElem?_append_right (by simp; omega), List.getElem?_map]
        simp only [if_neg (show ¬ i < S.length by omega), List.length_map]
    rw [hs, List.filter_append, hf, hf]

end Go.Proofs.YtcipkfhpcbddiaaGreat
