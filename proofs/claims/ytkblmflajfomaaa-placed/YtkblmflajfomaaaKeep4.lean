/- Package metaproofkeep: grown, more, Beside. -/
import Derived.Test.YtkblmflajfomaaaKeep3
namespace Go.Proofs.Ytkblmflajfomaaa
open Go.RowKit

theorem build_world (w : World) (a : Option Addr) : (Instr.build 39 #[(0, .pointer a)]).run Try.prog w = .ok (.agg #[.pointer a, .string ⟨#[]⟩, .slice none 0 0, .int .i64 0, .slice none 0 0, .slice none 0 0, .slice none 0 0, .slice none 0 0, .slice none 0 0]) w :=
  run_build w 39 _ _ (by kernel_rfl)
attribute [local go_sem] build_world

/-- What the proofs on texts give: without inclusions; a chunk more. -/
structure Texts : Prop where
  empty : Fine ⟨#[]⟩
  noInc : ∀ T : ByteArray, holdsF T = false → NoInc T
  more : ∀ T c : ByteArray, Fine T → holdsF c = false → holdsF (T ++ ⟨#[10]⟩ ++ c) = false ∧ (∀ r p, readF (T ++ ⟨#[10]⟩ ++ c) 0 emptyDb = (r, p) → (r == 0) = false → lineAt T T.size + 1 ≤ lineAt (T ++ ⟨#[10]⟩ ++ c) p)

theorem Texts.chunk (X : Texts) {T c : ByteArray} (hT : Fine T) (hc : holdsF c = false) : NoInc (T ++ ⟨#[10]⟩ ++ c) ∧ holdsF (T ++ ⟨#[10]⟩ ++ c) = false ∧ (∀ r p, readF (T ++ ⟨#[10]⟩ ++ c) 0 emptyDb = (r, p) → (r == 0) = false → lineAt T T.size + 1 ≤ lineAt (T ++ ⟨#[10]⟩ ++ c) p) :=
  ⟨X.noInc _ (X.more T c hT hc).1, (X.more T c hT hc).1, (X.more T c hT hc).2⟩

/-- A world of the law's: its block, its verifier's block, its text. -/
def Laid (w0 w : World) (b x : Nat) : Prop := w0.heap.size ≤ b ∧ w0.heap.size ≤ x ∧ x ≠ b ∧ (∃ T, WorldAt w b x T ∧ Fine T) ∧ (∃ fs r, VerAt w x fs r ∧ MOk 0 fs)

set_option maxHeartbeats 1000000 in
set_option maxRecDepth 100000 in
theorem grown_any (X : Texts) (ao : Option Addr) (cap : Nat) (l : List ByteArray) (w : World) (hl : l.length ≤ 1073741824) (hls : ∀ i, i < l.length → (l.getD i ⟨#[]⟩).size ≤ 1073741824)
    (hc : l.length = 0 ∨ ∃ b off, ao = some ⟨b, off, none⟩ ∧ ChunksAt w b off l) :
    Calls Try.prog 8 #[.slice ao l.length cap] w fun e w' => ∃ b x, e = .returned (.tuple #[.pointer (some ⟨b, 0, none⟩), .bool true]) ∧ Laid w w' b x ∧ Kept [] w w' := by
  go_enter Try.func8, Try.ntmps8
  go_wp2_with fail
  refine (new_any _).mono ?_
  rintro e w1 ⟨rfl, hV1, hk1⟩
  have hx1 := TabAt.lt hV1
  have hW1 : WorldAt (w1.alloc (.cells #[.pointer (some ⟨w.heap.size, 0, none⟩), .string ⟨#[]⟩, .slice none 0 0, .int .i64 0, .slice none 0 0, .slice none 0 0, .slice none 0 0, .slice none 0 0, .slice none 0 0] 39)) w1.heap.size w.heap.size ⟨#[]⟩ := heap_alloc_new _ _
  have hsz := hk1.size
  go_wp2
  go_loopg [6, 7] l.length (fun g i _ wr => ∃ (k : Nat), k ≤ l.length ∧ g = l.length - k ∧ i = .int .i64 k ∧ Laid w wr w1.heap.size w.heap.size ∧ Kept [] w wr)
  case atStart => exact ⟨0, by omega, by omega, rfl, ⟨by omega, Nat.le_refl _, by omega, ⟨_, hW1, X.empty⟩, ⟨[], false, TabAt.kept hV1 ((Kept.refl [] _).alloc _) (by simp), Or.inr ⟨rfl, by simp⟩⟩⟩, hk1.alloc _⟩
  case round =>
    obtain ⟨k, hk, hg, rfl, ⟨la, lb, lc, ⟨T, hW, hT⟩, ⟨fs, r, hV, hM⟩⟩, hkp⟩ := hrel
    by_cases hlt : k < l.length
    · rcases hc with h0 | ⟨cb, off, rfl, hcc⟩
      · omega
      · have hcb := hcc.1
        have hcr := (hcc.kept hkp (by simp)).2 k hlt
        have e0 : l.getD k ⟨#[]⟩ = l[k] := by rw [List.getD_eq_getElem?_getD, List.getElem?_eq_getElem hlt]; rfl
        have hcs := hls k hlt
        rw [e0] at hcs
        generalize l[k] = c at *
        clear e0
        go_wp2_with fail
        refine (chunk_any (N := 0) (by omega) w1.heap.size w.heap.size T c fs r _ hW hV lc hM hT hcs (X.noInc T hT.inc) (fun h => X.chunk hT h)).mono ?_
        rintro e w2 ⟨rfl, hW2, hV2, hk2⟩
        have hkw : Kept [] w w2 := ⟨hk2.os.trans hkp.os, hk2.tape.trans hkp.tape, hk2.output.trans hkp.output, Nat.le_trans hkp.size hk2.size, fun i hi _ => (hk2.block i (Nat.lt_of_lt_of_le hi hkp.size) (by simp; omega)).trans (hkp.block i hi (by simp))⟩
        go_wp2
        go_roundg (l.length - (k + 1))
        case measure => omega
        case rel => exact ⟨k + 1, by omega, rfl, by go_num, ⟨la, lb, lc, hW2, hV2⟩, hkw⟩
    · go_wp2
      go_ret2
      exact ⟨w1.heap.size, w.heap.size, rfl, ⟨la, lb, lc, ⟨T, hW, hT⟩, ⟨fs, r, hV, hM⟩⟩, hkp⟩

theorem mok0 {fs : List (ByteArray × ByteArray)} (h : MOk 0 fs) : fs = [] ∨ ∃ t, fs = [(⟨#[109]⟩, t)] := by
  rcases h with ⟨⟨k, hk, hf⟩, hl⟩ | ⟨_, hl⟩
  · right
    match fs, hl, hk, hf with
    | [f], _, hk, hf =>
      have hk0 : k = 0 := by simpa using hk
      subst hk0
      simp only [findF, findFrom] at hf
      split at hf
      · next he => exact ⟨f.2, by rw [← str_true he]⟩
      · simp at hf
  · left; exact List.eq_nil_of_length_eq_zero (by omega)

theorem put_x (n : ByteArray) (hn : isNameF n = true) (hm : ((⟨#[109]⟩ : ByteArray).toList == n.toList) = false) (hm2 : (n.toList == (⟨#[109]⟩ : ByteArray).toList) = false) (fs : List (ByteArray × ByteArray)) (d : ByteArray) (h : MOk 0 fs) :
    MOk 1 (putF fs n d).2 ∧ (putF fs n d).1 = if 1024 < d.size then 3 else 0 := by
  have hm1 : MOk 1 fs := by
    rcases h with ⟨a, b⟩ | ⟨a, b⟩
    · exact Or.inl ⟨a, by omega⟩
    · exact Or.inr ⟨a, by omega⟩
  by_cases hd : 1024 < d.size
  · have hc : checkF n d = 3 := by simp [checkF, hn, hd]
    simp [putF, hc, hd, hm1]
  · have hc : checkF n d = 0 := by simp [checkF, hn, hd]
    rcases mok0 h with rfl | ⟨t, rfl⟩
    · have e : putF [] n d = (0, [(n, d)]) := by simp [putF, hc, findF, findFrom]
      rw [e]
      refine ⟨Or.inr ⟨?_, by simp⟩, by simp [hd]⟩
      simp only [findF, findFrom, hm2]; simp
    · have e : putF [(⟨#[109]⟩, t)] n d = (0, [(⟨#[109]⟩, t), (n, d)]) := by
        simp only [putF, hc, findF, findFrom, hm]; simp
      rw [e]
      refine ⟨Or.inl ⟨⟨0, by simp, ?_⟩, by simp⟩, by simp [hd]⟩
      simp [findF, findFrom]

set_option maxHeartbeats 1000000 in
set_option maxRecDepth 100000 in
theorem more_any (X : Texts) (b x : Nat) (T d : ByteArray) (a : Int) (fs : List (ByteArray × ByteArray)) (rep : Bool) (w : World) (hW : WorldAt w b x T) (hV : VerAt w x fs rep) (hx : x ≠ b) (hM : MOk 0 fs) (hT : Fine T) (ha : -9223372036854775808 ≤ a ∧ a ≤ 9223372036854775807) (hd : d.size ≤ 1073741824) :
    Calls Try.prog 12 #[.pointer (some ⟨b, 0, none⟩), .int .i64 a, .string d] w fun e w' => e = .returned (.bool true) ∧ Kept [x] w w' := by
  obtain ⟨c0, c1, c2⟩ := hW.cells
  have hbw := lt_of_get hW
  have hxw := TabAt.lt hV
  go_enter Try.func12, Try.ntmps12
  go_wp2_with fail
  refine (pick_any a 2 _ ha (by omega)).mono ?_
  rintro e w1 ⟨⟨p, rfl, hp⟩, hw1⟩
  subst hw1
  have hp2 : p = 0 ∨ p = 1 := by omega
  rcases hp2 with rfl | rfl
  · have hcv : ∀ (wx : World), (convert 63 9 (.slice (some ⟨wx.heap.size, 0, none⟩) 1 1)).run Try.prog (wx.alloc (.cells #[.int .u8 48] 5)) = .ok (.string ⟨#[48]⟩) (wx.alloc (.cells #[.int .u8 48] 5)) := fun wx =>
      run_convert_bytes_back (wx.alloc (.cells #[.int .u8 48] 5)) 63 9 5 ⟨wx.heap.size, 0, none⟩ 1 [48] Try.underlying63 Try.underlying5 Try.underlying9 (by
        intro j hj
        match j, hj with
        | 0, _ => simp [Addr.add])
    have PX := put_x (({ data := #[120] } : ByteArray) ++ { data := #[48] }) (by decide +kernel) (by decide +kernel) (by decide +kernel) fs d hM
    have HPX := (show Hid _ from PX)
    have VP := vput_any x (({ data := #[120] } : ByteArray) ++ { data := #[48] }) d fs rep (w1.alloc (.cells #[.int .u8 48] 5)) (TabAt.kept hV ((Kept.refl [] _).alloc _) (by simp)) (by decide +kernel) (by omega)
    have HVP := (show Hid _ from VP)
    clear PX VP
    go_wp2_with fail
    refine Calls.mono HVP.out ?_
    rintro e w2 ⟨rfl, ⟨r2, hV2⟩, hk2⟩
    rw [HPX.out.2]
    have hW2 := (hW.kept ((Kept.refl [] _).alloc _) (by simp)).kept hk2 (by simp; omega)
    have hkx : Kept [x] w1 w2 := ((Kept.refl _ _).alloc _).trans hk2
    by_cases hl : 1024 < d.size
    · rw [if_pos hl]
      have hle : decide ((d.size : Int) ≤ 1024) = false := by simp; omega
      go_wp2_with fail
      refine (back_any (N := 1) (by omega) b x T _ r2 _ hW2 hV2 hx HPX.out.1 hT (X.noInc T hT.inc)).mono ?_
      rintro e w3 ⟨rfl, -, -, hk3⟩
      go_wp2
      go_ret
      exact ⟨rfl, hkx.trans hk3⟩
    · rw [if_neg hl]
      have hle : decide ((d.size : Int) ≤ 1024) = true := by simp; omega
      go_wp2_with fail
      refine (back_any (N := 1) (by omega) b x T _ r2 _ hW2 hV2 hx HPX.out.1 hT (X.noInc T hT.inc)).mono ?_
      rintro e w3 ⟨rfl, -, -, hk3⟩
      go_wp2
      go_ret
      exact ⟨rfl, hkx.trans hk3⟩
  · have hcv : ∀ (wx : World), (convert 63 9 (.slice (some ⟨wx.heap.size, 0, none⟩) 1 1)).run Try.prog (wx.alloc (.cells #[.int .u8 49] 5)) = .ok (.string ⟨#[49]⟩) (wx.alloc (.cells #[.int .u8 49] 5)) := fun wx =>
      run_convert_bytes_back (wx.alloc (.cells #[.int .u8 49] 5)) 63 9 5 ⟨wx.heap.size, 0, none⟩ 1 [49] Try.underlying63 Try.underlying5 Try.underlying9 (by
        intro j hj
        match j, hj with
        | 0, _ => simp [Addr.add])
    have PX := put_x (({ data := #[120] } : ByteArray) ++ { data := #[49] }) (by decide +kernel) (by decide +kernel) (by decide +kernel) fs d hM
    have HPX := (show Hid _ from PX)
    have VP := vput_any x (({ data := #[120] } : ByteArray) ++ { data := #[49] }) d fs rep (w1.alloc (.cells #[.int .u8 49] 5)) (TabAt.kept hV ((Kept.refl [] _).alloc _) (by simp)) (by decide +kernel) (by omega)
    have HVP := (show Hid _ from VP)
    clear PX VP
    go_wp2_with fail
    refine Calls.mono HVP.out ?_
    rintro e w2 ⟨rfl, ⟨r2, hV2⟩, hk2⟩
    rw [HPX.out.2]
    have hW2 := (hW.kept ((Kept.refl [] _).alloc _) (by simp)).kept hk2 (by simp; omega)
    have hkx : Kept [x] w1 w2 := ((Kept.refl _ _).alloc _).trans hk2
    by_cases hl : 1024 < d.size
    · rw [if_pos hl]
      have hle : decide ((d.size : Int) ≤ 1024) = false := by simp; omega
      go_wp2_with fail
      refine (back_any (N := 1) (by omega) b x T _ r2 _ hW2 hV2 hx HPX.out.1 hT (X.noInc T hT.inc)).mono ?_
      rintro e w3 ⟨rfl, -, -, hk3⟩
      go_wp2
      go_ret
      exact ⟨rfl, hkx.trans hk3⟩
    · rw [if_neg hl]
      have hle : decide ((d.size : Int) ≤ 1024) = true := by simp; omega
      go_wp2_with fail
      refine (back_any (N := 1) (by omega) b x T _ r2 _ hW2 hV2 hx HPX.out.1 hT (X.noInc T hT.inc)).mono ?_
      rintro e w3 ⟨rfl, -, -, hk3⟩
      go_wp2
      go_ret
      exact ⟨rfl, hkx.trans hk3⟩

theorem small_none (ao : Option Addr) (cap : Nat) (w : World) : Calls Try.prog 6 #[.slice ao 0 cap] w fun e w' => e = .returned (.bool true) ∧ w' = w := by
  go_enter Try.func6, Try.ntmps6
  go_wp2
  refine wp_loop_rounds 1 ?_
  rw [rounds_succ]
  go_wp2
  go_ret
  exact ⟨rfl, rfl⟩

set_option maxHeartbeats 1000000 in
set_option maxRecDepth 100000 in
theorem beside_any (X : Texts) (ao : Option Addr) (cap : Nat) (l : List ByteArray) (a : Int) (d : ByteArray) (w : World) (hl : l.length ≤ 140737488351232) (hls : ∀ x, x ∈ l → x.size ≤ 140737488351232) (hds : d.size ≤ 140737488351232) (ha : -9223372036854775808 ≤ a ∧ a ≤ 9223372036854775807)
    (hc : l.length = 0 ∨ ∃ b off, ao = some ⟨b, off, none⟩ ∧ ChunksAt w b off l) :
    Calls Try.prog 5 #[.slice ao l.length cap, .int .i64 a, .string d] w fun e w' => e = .returned (.bool true) ∧ Below w.heap.size w w' := by
  have SM : Calls Try.prog 6 #[.slice ao l.length cap] w fun e w' => (∃ r, e = .returned (.bool r) ∧ (r = true → l.length ≤ 1073741824 ∧ ∀ i, i < l.length → (l.getD i ⟨#[]⟩).size ≤ 1073741824)) ∧ w' = w := by
    rcases hc with h0 | ⟨b, off, rfl, hcc⟩
    · rw [h0]
      refine (small_none ao cap w).mono ?_
      rintro e w1 ⟨rfl, rfl⟩
      exact ⟨⟨true, rfl, fun _ => ⟨by omega, fun i hi => by omega⟩⟩, rfl⟩
    · exact small_any b off cap l w hl hls hcc
  have HSM := (show Hid _ from SM)
  clear SM
  go_enter Try.func5, Try.ntmps5
  go_wp2_with fail
  refine Calls.mono HSM.out ?_
  rintro e w1 ⟨⟨r, rfl, hr⟩, hw1⟩
  subst hw1
  cases r
  · go_wp2
    go_ret
    exact ⟨rfl, Below.refl _ _⟩
  · obtain ⟨hl1, hl2⟩ := hr rfl
    by_cases hd : 1073741824 < d.size
    · go_wp2
      go_ret
      exact ⟨rfl, Below.refl _ _⟩
    · go_wp2_with fail
      refine (grown_any X ao cap l _ hl1 hl2 hc).mono ?_
      rintro e w2 ⟨b, x, rfl, ⟨la, lb, lc, ⟨T, hW, hT⟩, ⟨fs, r, hV, hM⟩⟩, hk2⟩
      obtain ⟨c0, c1, c2⟩ := hW.cells
      go_wp2_with fail
      refine (vput_any x ⟨#[]⟩ d fs r _ hV (by simp [ByteArray.size]) (by omega)).mono ?_
      rintro e w3 ⟨rfl, ⟨r3, hV3⟩, hk3⟩
      have hp : putF fs ⟨#[]⟩ d = (2, fs) := by
        have : checkF ⟨#[]⟩ d = 2 := by simp [checkF, show isNameF ⟨#[]⟩ = false by decide +kernel]
        simp [putF, this]
      rw [hp] at hV3 ⊢
      have hW3 := hW.kept hk3 (by simp; omega)
      go_wp2_with fail
      refine (more_any X b x T d a fs r3 _ hW3 hV3 lc hM hT ha (by omega)).mono ?_
      rintro e w4 ⟨rfl, hk4⟩
      go_wp2
      go_ret
      refine ⟨rfl, ?_⟩
      have hk : Kept [x] w1 w4 := ((hk2.mono (by simp)).trans hk3).trans hk4
      exact ⟨hk.os, hk.tape, hk.output, hk.size, fun k hk' => hk.block k hk' (by simp; omega)⟩

end Go.Proofs.Ytkblmflajfomaaa
