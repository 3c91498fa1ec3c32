/- Our texts: Keep3b, Keep4, RowK. -/
import Derived.Test.YtcipkfhpcbddiaaGreatRows
import Derived.ProofKit
import Derived.OpenShut
import Derived.ShutString
import Derived.ChangeOld
import Derived.Below
import Derived.SizedLaws
import Derived.SliceStrings
import Derived.Test.YtcipkfhpcbddiaaGreatG07
import Derived.Test.YtcipkfhpcbddiaaGreatG15
/- Package metaproofkeep: chunk. -/
namespace Go.Proofs.YtcipkfhpcbddiaaGreat
open Go.RowKit

theorem two_keptW (w : World) (b : Nat) (u v : Value) : Kept [b] w ((w.setCell ⟨b, 1, none⟩ u).setCell ⟨b, 2, none⟩ v) :=
  ((Kept.refl [b] w).setCell (Or.inl (by simp)) _).setCell (Or.inl (by simp)) _
theorem WorldAt.text {w : World} {b x : Nat} {T : ByteArray} {o : Option Nat} (h : WorldAt w b x T o) (U : ByteArray) (o' : Option Nat) (hR : RowsAt w o' (rowsM U)) (hne : ∀ g, o' = some g → g ≠ b ∧ g ≠ x) :
    WorldAt ((w.setCell ⟨b, 1, none⟩ (.string U)).setCell ⟨b, 2, none⟩ (rowsSl o' (rowsM U).length)) b x U o' := by
  refine ⟨?_, hR.kept (two_keptW w b _ _) (fun g hg => by have := (hne g hg).1; simpa using this), hne⟩
  rw [block_setCell (block_setCell h.blk 1 (.string U)) 2 (rowsSl o' (rowsM U).length)]
  simp [worldCells]

/-- What chunk leaves. -/
def ChunkSays (N b x : Nat) (w : World) (e : Ending) (w' : World) : Prop :=
  e = .returned (.bool true) ∧ (∃ T' o', WorldAt w' b x T' o' ∧ Fine T') ∧ (∃ fs', SomeAt w' x fs' ∧ MOk N fs') ∧ Kept [b, x] w w'

set_option maxHeartbeats 3000000 in
set_option maxRecDepth 100000 in
theorem chunk_any {N : Nat} (hN : N ≤ 3) (b x : Nat) (T c : ByteArray) (o : Option Nat) (fs : List (ByteArray × ByteArray)) (w : World) (hW : WorldAt w b x T o) (hV : SomeAt w x fs) (hx : x ≠ b) (hM : MOk N fs) (hT : Fine T) (hc : c.size ≤ 1073741824) :
    Calls Tryz.prog 16 #[.pointer (some ⟨b, 0, none⟩), .string c] w fun e w' => ChunkSays N b x w e w' := by
  have hTs := hT.size
  have hbw := hW.lt
  have hxw := hV.lt
  obtain ⟨c0, c1, -⟩ := hW.cells
  cases hh : holdsF c
  · have hsz : (T ++ ⟨#[10]⟩ ++ c).size = T.size + 1 + c.size := by simp only [ByteArray.size_append]; rfl
    have HU : Hid (∀ U, U = T ++ ⟨#[10]⟩ ++ c → U.size = T.size + 1 + c.size ∧ holdsF U = false ∧ ((rdM U).1.1 ≠ 0 → lineAt T T.size + 1 ≤ lineAt U (rdM U).1.2) ∧ ∃ m, rowsM U = rowsM T ++ m) := by
      intro U hUU; subst hUU; exact ⟨hsz, holds_more T c hT.inc hh, more_line T c hT, rows_more T c hT⟩
    clear hsz
    go_enter Tryz.func16, Tryz.ntmps16
    go_wp2_with (go_at_call 17; refine (kholds_any _ _ (by omega)).mono ?_; rintro e w9 ⟨rfl, hw9⟩; rw [hw9])
    obtain ⟨U, hUU⟩ : ∃ U, U = T ++ ⟨#[10]⟩ ++ c := ⟨_, rfl⟩
    rw [← hUU]
    obtain ⟨u1, u3, u4, m, u5⟩ := HU.out U hUU
    clear hUU HU
    by_cases hl : 1024 < U.size
    · refine (see_long b x T U o fs _ hW hV hx hl (by omega)).mono ?_
      rintro e w2 ⟨rfl, hW2, hV2, hk2⟩
      simp only [seenV]
      have hb2 := hW2.lt
      go_wp2_with fail
      refine (back_any hN b x T o fs _ (hW2.still ((Kept.refl [] _).alloc _)) (hV2.kept ((Kept.refl [] _).alloc _) (by simp)) hx hM hT).mono ?_
      rintro e w3 ⟨rfl, hW3, ⟨fs3, hV3, hM3⟩, hk3⟩
      go_wp2
      go_ret
      exact ⟨rfl, ⟨T, o, hW3, hT⟩, ⟨fs3, hV3, hM3⟩, ((hk2.mono (by simp)).alloc _).trans (hk3.mono (by simp))⟩
    · refine (see_short hN b x T U o fs _ hW hV hx hl hM u3).mono ?_
      rintro e w2 ⟨o', rfl, hR2, hg2, hW2, ⟨fs2, hV2, hM2⟩, hk2⟩
      unfold seeV
      have hb2 := hW2.lt
      have FU : Hid (((rdM U).1.1 == 0) = true → Fine U) := fun h => ⟨by omega, by simpa using h, u3⟩
      obtain ⟨r, HR⟩ : ∃ r, Hid ((rdM U).1.1 = r) := ⟨_, rfl⟩
      obtain ⟨p, HP⟩ : ∃ p, Hid ((rdM U).1.2 = p) := ⟨_, rfl⟩
      rw [HR.out] at hR2 u4 FU ⊢
      rw [HP.out] at u4 ⊢
      cases hr : (r == 0)
      · simp only [Bool.false_eq_true, if_false, seenV]
        have hl1 := line_le T T.size
        have hl2 := u4 (by simpa using hr)
        have hl3 := line_le U p
        clear u4 hR2 FU c0 c1
        obtain ⟨c0, c1, -⟩ := hW2.cells
        go_wp2_with (go_at_call 22; refine (lines_any _ _ (by omega)).mono ?_; rintro e w9 ⟨rfl, hw9⟩; subst hw9)
        refine (back_any hN b x T o fs2 _ (hW2.still ((Kept.refl [] _).alloc _)) (hV2.kept ((Kept.refl [] _).alloc _) (by simp)) hx hM2 hT).mono ?_
        rintro e w3 ⟨rfl, hW3, ⟨fs3, hV3, hM3⟩, hk3⟩
        go_wp2
        go_ret
        exact ⟨rfl, ⟨T, o, hW3, hT⟩, ⟨fs3, hV3, hM3⟩, ((hk2.mono (by simp)).alloc _).trans (hk3.mono (by simp))⟩
      · simp only [if_true]
        have hR2 := hR2 hr
        have HF2 := (show Hid _ from FU.out hr)
        have BG := fun (w' : World) (k : Kept [] w2 w') => begins_any o o' (rowsM T) m w' (hW2.rows.still k) (by rw [← u5]; exact hR2.still k) (by rw [← u5]; exact HF2.out.rws)
        rw [← u5] at BG
        obtain ⟨d0, d1, d2⟩ := hW2.cells
        obtain ⟨ao1, n1, c1', hrs1⟩ := rowsSl_is o' (rowsM U).length
        obtain ⟨ao2, n2, c2', hrs2⟩ := rowsSl_is o (rowsM T).length
        rw [hrs1, hrs2] at BG
        rw [hrs2] at d2
        rw [hrs1]
        have HBG := (show Hid _ from BG)
        have HRS1 := (show Hid _ from hrs1)
        have HR2 : Hid (RowsAt w2 o' (rowsM U)) := hR2
        clear BG hrs1 hrs2 u5 hR2 u4 FU c0 c1 u3 hl
        simp only [seenV]
        go_upto_region 9 with fail
        obtain ⟨W3, hW3⟩ : ∃ W3, W3 = w2.alloc (.cells #[.slice ao1 n1 c1', .int .i64 0, .string ⟨#[]⟩, .int .i64 0, .int .i64 0, .int .i64 0] 52) := ⟨_, rfl⟩
        have k3 : Kept [] w2 W3 := by rw [hW3]; exact (Kept.refl [] _).alloc _
        have B3 : W3.heap[w2.heap.size]? = some (.cells #[.slice ao1 n1 c1', .int .i64 0, .string ⟨#[]⟩, .int .i64 0, .int .i64 0, .int .i64 0] 52 (0, 0)) := by rw [hW3]; exact heap_alloc_new _ _
        rw [← hW3]
        have s0 := (seen_cells B3).1
        have e2 : W3.cell? ⟨b, 2, none⟩ = some (.slice ao2 n2 c2') := by
          rw [World.cell?_of_block (k3.block b hb2 (by simp))]; exact d2
        have hb3 : b < W3.heap.size := Nat.lt_of_lt_of_le hb2 k3.size
        clear hW3 d0 d1 d2
        go_region_with (go_at_call 36; refine (HBG.out _ (by exact k3.trans (Kept.refl [] W3).drew)).mono ?_; rintro e w4 ⟨rfl, k4⟩)
        all_goals
          have K4 : Kept [] w2 w4 := (k3.trans (Kept.refl [] W3).drew).trans k4
          have B4 := k4.get ((Kept.refl [] W3).drew.get B3 (by simp)) (by simp)
          obtain ⟨t0, -, -, -, -, -⟩ := seen_cells B4
          have hW4 := hW2.still K4
          have hz4 := lt_of_get B4
          have hb4 := hW4.lt
          obtain ⟨f0, f1, f2⟩ := hW4.cells
          obtain ⟨ao3, n3, c3', hrs3⟩ := rowsSl_is o (rowsM T).length
          rw [hrs3] at f2
          have hfr := free_of hW4.blk
          have hne : b ≠ w2.heap.size := by omega
          have hne' : w2.heap.size ≠ b := by omega
          have HT4 := (show Hid _ from hW4.text U o' (HR2.out.still K4) (fun g hg => by have := hg2 g hg; omega))
          rw [HRS1.out] at HT4
          have HV4 : Hid (SomeAt w4 x fs2) := hV2.kept K4 (by simp)
          have HKK : Hid (Kept [b, x] w w4) := (hk2.mono (by simp)).trans (K4.mono (by simp))
          clear s0 e2 B3 hW4 hrs3 B4 k4 K4
          go_wp2
          go_ret
          exact ⟨rfl, ⟨U, o', HT4.out, HF2.out⟩, ⟨fs2, HV4.out.kept (two_keptW w4 b _ _) (by simpa using hx), hM2⟩, (HKK.out.setCell (Or.inl (by simp)) _).setCell (Or.inl (by simp)) _⟩
  · go_enter Tryz.func16, Tryz.ntmps16
    go_wp2_with (go_at_call 17; refine (kholds_any _ _ (by omega)).mono ?_; rintro e w9 ⟨rfl, rfl⟩)
    go_ret
    exact ⟨rfl, ⟨T, o, hW, hT⟩, ⟨fs, hV, hM⟩, Kept.refl _ _⟩

end Go.Proofs.YtcipkfhpcbddiaaGreat

/- Package metaproofkeep: grown. -/
namespace Go.Proofs.YtcipkfhpcbddiaaGreat
open Go.RowKit

theorem build_world (w : World) (a : Option Addr) : (Instr.build 49 #[(0, .pointer a)]).run Tryz.prog w = .ok (.agg #[.pointer a, .string ⟨#[]⟩, .slice none 0 0, .int .i64 0, .slice none 0 0, .slice none 0 0, .slice none 0 0, .slice none 0 0, .slice none 0 0]) w :=
  run_build w 49 _ _ (by kernel_rfl)
attribute [local go_sem] build_world

theorem rowsM_empty : rowsM ⟨#[]⟩ = [] := by
  have h : (rdM ⟨#[]⟩).2.sts.length = 0 := by decide +kernel
  unfold rowsM
  rw [List.eq_nil_of_length_eq_zero h]
  rfl

/-- A world of the law's: its block, its verifier's block, its text. -/
def Laid (w0 w : World) (b x : Nat) : Prop := w0.heap.size ≤ b ∧ w0.heap.size ≤ x ∧ x ≠ b ∧ (∃ T o, WorldAt w b x T o ∧ Fine T) ∧ (∃ fs, SomeAt w x fs ∧ MOk 0 fs)

set_option maxHeartbeats 1000000 in
set_option maxRecDepth 100000 in
theorem grown_any (ao : Option Addr) (cap : Nat) (l : List ByteArray) (w : World) (hl : l.length ≤ 1073741824) (hls : ∀ i, i < l.length → (l.getD i ⟨#[]⟩).size ≤ 1073741824)
    (hc : l.length = 0 ∨ ∃ b off, ao = some ⟨b, off, none⟩ ∧ ChunksAt w b off l) :
    Calls Tryz.prog 8 #[.slice ao l.length cap] w fun e w' => ∃ b x, e = .returned (.tuple #[.pointer (some ⟨b, 0, none⟩), .bool true]) ∧ Laid w w' b x ∧ Kept [] w w' := by
  go_enter Tryz.func8, Tryz.ntmps8
  go_wp2_with fail
  refine (new_any _).mono ?_
  rintro e w1 ⟨rfl, hV1, hk1⟩
  have hx1 := hV1.anyR.lt
  have hW1 : WorldAt (w1.alloc (.cells #[.pointer (some ⟨w.heap.size, 0, none⟩), .string ⟨#[]⟩, .slice none 0 0, .int .i64 0, .slice none 0 0, .slice none 0 0, .slice none 0 0, .slice none 0 0, .slice none 0 0] 49)) w1.heap.size w.heap.size ⟨#[]⟩ none :=
    ⟨heap_alloc_new _ _, rowsM_empty, fun g hg => by cases hg⟩
  have HW1 := (show Hid _ from hW1)
  clear hW1
  have hsz := hk1.size
  go_wp2
  go_loopg [6, 7] l.length (fun g i _ wr => ∃ (k : Nat), k ≤ l.length ∧ g = l.length - k ∧ i = .int .i64 k ∧ Laid w wr w1.heap.size w.heap.size ∧ Kept [] w wr)
  case atStart => exact ⟨0, by omega, by omega, rfl, ⟨by omega, Nat.le_refl _, by omega, ⟨_, _, HW1.out, fine_empty⟩, ⟨[], hV1.anyR.kept ((Kept.refl [] _).alloc _) (by simp), Or.inr ⟨rfl, by simp⟩, filesOk_nil⟩⟩, hk1.alloc _⟩
  case round =>
    obtain ⟨k, hk, hg, rfl, ⟨la, lb, lc, ⟨T, o, hW, hT⟩, ⟨fs, hV, hM⟩⟩, hkp⟩ := hrel
    by_cases hlt : k < l.length
    · rcases hc with h0 | ⟨cb, off, rfl, hcc⟩
      · omega
      · have hcb := hcc.1
        have hcr := (hcc.kept hkp (by simp)).2 k hlt
        have e0 : l.getD k ⟨#[]⟩ = l[k] := by rw [List.getD_eq_getElem?_getD, List.getElem?_eq_getElem hlt]; rfl
        have hcs := hls k hlt
        rw [e0] at hcs
        generalize l[k] = c at *
        clear e0
        go_wp2_with fail
        refine (chunk_any (N := 0) (by omega) w1.heap.size w.heap.size T c o fs _ hW hV lc hM hT hcs).mono ?_
        rintro e w2 ⟨rfl, hW2, hV2, hk2⟩
        have hkw : Kept [] w w2 := ⟨hk2.os.trans hkp.os, hk2.tape.trans hkp.tape, hk2.output.trans hkp.output, Nat.le_trans hkp.size hk2.size, fun i hi _ => (hk2.block i (Nat.lt_of_lt_of_le hi hkp.size) (by simp; omega)).trans (hkp.block i hi (by simp))⟩
        go_wp2
        go_roundg (l.length - (k + 1))
        case measure => omega
        case rel => exact ⟨k + 1, by omega, rfl, by go_num, ⟨la, lb, lc, hW2, hV2⟩, hkw⟩
    · go_wp2
      go_ret2
      exact ⟨w1.heap.size, w.heap.size, rfl, ⟨la, lb, lc, ⟨T, o, hW, hT⟩, ⟨fs, hV, hM⟩⟩, hkp⟩

theorem mok0 {fs : List (ByteArray × ByteArray)} (h : MHas 0 fs) : fs = [] ∨ ∃ t, fs = [(⟨#[109]⟩, t)] := by
  rcases h with ⟨⟨k, hk, hf⟩, hl⟩ | ⟨_, hl⟩
  · right
    match fs, hl, hk, hf with
    | [f], _, hk, hf =>
      have hk0 : k = 0 := by simpa using hk
      subst hk0
      simp only [findF, findFrom] at hf
      split at hf
      · next he => exact ⟨f.2, by rw [← str_true he]⟩
      · simp at hf
  · left; exact List.eq_nil_of_length_eq_zero (by omega)

theorem put_x0 (n : ByteArray) (hn : isNameF n = true) (hm : ((⟨#[109]⟩ : ByteArray).toList == n.toList) = false) (hm2 : (n.toList == (⟨#[109]⟩ : ByteArray).toList) = false) (fs : List (ByteArray × ByteArray)) (d : ByteArray) (h : MHas 0 fs) :
    MHas 1 (putF fs n d).2 ∧ (putF fs n d).1 = if 1024 < d.size then 3 else 0 := by
  have hm1 : MHas 1 fs := by
    rcases h with ⟨a, b⟩ | ⟨a, b⟩
    · exact Or.inl ⟨a, by omega⟩
    · exact Or.inr ⟨a, by omega⟩
  by_cases hd : 1024 < d.size
  · have hc : checkF n d = 3 := by simp [checkF, hn, hd]
    simp [putF, hc, hd, hm1]
  · have hc : checkF n d = 0 := by simp [checkF, hn, hd]
    rcases mok0 h with rfl | ⟨t, rfl⟩
    · have e : putF [] n d = (0, [(n, d)]) := by simp [putF, hc, findF, findFrom]
      rw [e]
      refine ⟨Or.inr ⟨?_, by simp⟩, by simp [hd]⟩
      simp only [findF, findFrom, hm2]; simp
    · have e : putF [(⟨#[109]⟩, t)] n d = (0, [(⟨#[109]⟩, t), (n, d)]) := by
        simp only [putF, hc, findF, findFrom, hm]; simp
      rw [e]
      refine ⟨Or.inl ⟨⟨0, by simp, ?_⟩, by simp⟩, by simp [hd]⟩
      simp [findF, findFrom]

theorem filesOk_put {fs : List (ByteArray × ByteArray)} (h : FilesOk fs) (n d : ByteArray) : FilesOk (putF fs n d).2 := by
  unfold putF
  split
  · exact h
  · next hc =>
    have hd : d.size ≤ 1024 := by
      unfold checkF at hc
      split at hc
      · simp at hc
      · split at hc
        · simp at hc
        · omega
    split
    · exact filesOk_set h _ _ _ hd
    · split
      · exact h
      · exact filesOk_snoc h _ _ hd
theorem put_x (n : ByteArray) (hn : isNameF n = true) (hm : ((⟨#[109]⟩ : ByteArray).toList == n.toList) = false) (hm2 : (n.toList == (⟨#[109]⟩ : ByteArray).toList) = false) (fs : List (ByteArray × ByteArray)) (d : ByteArray) (h : MOk 0 fs) :
    MOk 1 (putF fs n d).2 ∧ (putF fs n d).1 = if 1024 < d.size then 3 else 0 :=
  ⟨⟨(put_x0 n hn hm hm2 fs d h.1).1, filesOk_put h.2 n d⟩, (put_x0 n hn hm hm2 fs d h.1).2⟩

theorem small_none (ao : Option Addr) (cap : Nat) (w : World) : Calls Tryz.prog 6 #[.slice ao 0 cap] w fun e w' => e = .returned (.bool true) ∧ w' = w := by
  go_enter Tryz.func6, Tryz.ntmps6
  go_wp2
  refine wp_loop_rounds 1 ?_
  rw [rounds_succ]
  go_wp2
  go_ret
  exact ⟨rfl, rfl⟩

theorem smallish (ao : Option Addr) (cap : Nat) (l : List ByteArray) (w : World) (hl : l.length ≤ 140737488351232) (hls : ∀ x, x ∈ l → x.size ≤ 140737488351232) (hc : l.length = 0 ∨ ∃ b off, ao = some ⟨b, off, none⟩ ∧ ChunksAt w b off l) :
    Calls Tryz.prog 6 #[.slice ao l.length cap] w fun e w' => (∃ r, e = .returned (.bool r) ∧ (r = true → l.length ≤ 1073741824 ∧ ∀ i, i < l.length → (l.getD i ⟨#[]⟩).size ≤ 1073741824)) ∧ w' = w := by
  rcases hc with h0 | ⟨b, off, rfl, hcc⟩
  · rw [h0]
    refine (small_none ao cap w).mono ?_
    rintro e w1 ⟨rfl, rfl⟩
    exact ⟨⟨true, rfl, fun _ => ⟨by omega, fun i hi => by omega⟩⟩, rfl⟩
  · exact small_any b off cap l w hl hls hcc

end Go.Proofs.YtcipkfhpcbddiaaGreat

/- Rows round the walks: the chunks that came in. -/
namespace Go.Proofs.YtcipkfhpcbddiaaGreat
open Go.ChangeShapes Go.WideShapes Go.ChangeAt Go.RowKit
open Go.ChangeMaps (open_string shut_string)

theorem own : ownKnob Tryz.prog.godebug = none := by kernel_rfl
theorem laidOut : laidOutB Tryz.prog = true := by kernel_rfl
theorem bytesS : Tryz.prog.bytesOf 9 = 16 := by kernel_rfl

theorem weights_strs {H : Type} (P : Program) (e : TypeId) (f : ByteArray → DataW H) (hf : ∀ s, f s = .lit (.string s.data.toList)) (l : List ByteArray) (s : ByteArray) (hs : s ∈ l) : s.data.toList.length ∈ DataW.weightsAll P e (l.map f) := by
  induction l with
  | nil => simp at hs
  | cons a r ih =>
    rw [List.map_cons, DataW.weightsAll, List.mem_append]
    rcases List.mem_cons.1 hs with rfl | h
    · left; rw [hf, DataW.weights]; simp
    · right; exact ih h

/-- What the walk is told of the chunks that came in. -/
theorem chunks_in {H : Type} {enc : TypeId × Value → H} {W : World} {a0 : Option Addr} {len0 cap0 : Nat} {d0 : DataW H} {p0 : List MemPlace} {TS : List TypeId} {DS : List (DataW H)}
    (h0 : DataW.Trod enc Tryz.prog W 0 (fun _ => true) true 22 (.slice a0 len0 cap0) d0 p0)
    (hsz : (DataW.weightsEach Tryz.prog TS DS).all (· ≤ reachBytes) = true) (hT : TS[0]? = some 22) (hD : DS[0]? = some d0) :
    ∃ l : List ByteArray, l.length = len0 ∧ len0 ≤ 140737488351232 ∧ (∀ x, x ∈ l → x.size ≤ 140737488351232) ∧ (l.length = 0 ∨ ∃ b off, a0 = some ⟨b, off, none⟩ ∧ ChunksAt W b off l) := by
  have lt0 : ∀ x ∈ p0, x.block < W.heap.size := by obtain ⟨m, hm⟩ := h0; exact DataW.trod_lt m _ _ _ hm
  obtain ⟨fuel, hf⟩ := h0
  rcases open_strings Tryz.underlying22 Tryz.underlying9 (by kernel_rfl) hf with ⟨hcs, _⟩ | ⟨x, l, c, ss, hcs, _, hl, hm, hz, hx, hcell, hws⟩
  · simp [Value.cells] at hcs
    obtain ⟨rfl, rfl, rfl⟩ := hcs
    exact ⟨[], rfl, by omega, by simp, Or.inl rfl⟩
  · simp [Value.cells] at hcs
    obtain ⟨rfl, rfl, rfl⟩ := hcs
    simp at hz
    have hsl : (ss.take len0).length = len0 := by simp; omega
    simp only [Prod.mk.injEq] at hx
    obtain ⟨rfl, -⟩ := hx
    have hw1 := sized_slice hsz (j := 0) hT hD Tryz.underlying22
    rw [bytesS] at hw1
    simp only [ChangeShapes.strs, List.length_map, List.length_take, List.length_drop, reachBytes] at hw1
    refine ⟨ss.take len0, hsl, by omega, ?_, ?_⟩
    · intro y hy
      have hm1 : y.data.toList.length ∈ DataW.weights Tryz.prog 22 (.slice (ChangeShapes.strs (ss.take len0)) (ChangeShapes.strs (ss.drop len0)) : DataW H) := by
        simp only [DataW.weights, Tryz.underlying22]
        exact List.mem_cons_of_mem _ (List.mem_append_left _ (weights_strs Tryz.prog 9 _ (fun _ => rfl) _ y hy))
      have := List.all_eq_true.1 hsz _ (DataW.weights_mem_each (j := 0) hT hD _ hm1)
      have this2 : y.data.toList.length ≤ reachBytes := by simpa using this
      simp only [reachBytes] at this2
      exact this2
    · by_cases h0 : len0 = 0
      · left; rw [hsl]; exact h0
      · right
        obtain ⟨b, off, spot⟩ := x
        have hc0 := hcell 0 (by omega)
        have hspot : spot = none := by simpa [Addr.add] using World.cell?_spot hc0
        subst hspot
        refine ⟨b, off, rfl, ?_, ?_⟩
        · have : W.cell? ⟨b, off, none⟩ = some (.string (ss.getD 0 ByteArray.empty)) := by simpa [Addr.add] using hc0
          unfold World.cell? at this
          split at this
          · next hh => exact lt_of_get hh
          · cases this
        · intro i hi
          have hi' : i < len0 := by rw [hsl] at hi; exact hi
          have := hcell i (by omega)
          have ea : (⟨b, off, none⟩ : Addr).add i = ⟨b, off + i, none⟩ := by
            simp only [Addr.add]
            split
            · next h => subst h; rfl
            · rfl
          rw [ea] at this
          rw [this, List.getElem_take, List.getD_eq_getElem?_getD, List.getElem?_eq_getElem (by omega)]
          rfl

end Go.Proofs.YtcipkfhpcbddiaaGreat
