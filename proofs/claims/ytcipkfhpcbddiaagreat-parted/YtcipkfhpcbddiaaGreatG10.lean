/- Our texts: KEq, Mp0, Keep1, Read1, Read2, Read3, Read4. -/
import Derived.Deep.RegionHeld3
import Derived.BigQuiet
import Derived.Test.YtcipkfhpcbddiaaGreatG03
import Derived.Test.YtcipkfhpcbddiaaGreatG09
/- Package metaproofkeep: faults, places, rows that are the same; sameRow, sameRows, begins. -/
namespace Go.Proofs.YtcipkfhpcbddiaaGreat
open Go.RowKit

theorem uF : Tryz.prog.underlying 41 = some (.struct (Tryz.prog.fieldsOf 41)) := by kernel_rfl
theorem uP : Tryz.prog.underlying 39 = some (.struct (Tryz.prog.fieldsOf 39)) := by kernel_rfl
theorem sF : Tryz.prog.stoodInHeld 41 = false := by kernel_rfl
theorem sP : Tryz.prog.stoodInHeld 39 = false := by kernel_rfl
theorem partF0 (a : Value) (b c d : Value) (w : World) : (part 3 #[a, b, c, d] 0).run Tryz.prog w = .ok a w := by kernel_rfl
theorem partF1 (a b c d : Value) (w : World) : (part 39 #[a, b, c, d] 1).run Tryz.prog w = .ok (.agg #[b, c, d]) w := by kernel_rfl
theorem partP0 (a b c : Value) (w : World) : (part 9 #[a, b, c] 0).run Tryz.prog w = .ok a w := by kernel_rfl
theorem partP1 (a b c : Value) (w : World) : (part 3 #[a, b, c] 1).run Tryz.prog w = .ok b w := by kernel_rfl
theorem partP2 (a b c : Value) (w : World) : (part 3 #[a, b, c] 2).run Tryz.prog w = .ok c w := by kernel_rfl
theorem eqP (d : Nat) (xs ys : Array Value) : Op.eqFields d xs ys (Tryz.prog.fieldsOf 39).toList = (do let a ← part 9 xs 0; let b ← part 9 ys 0; let r ← Op.equalIn d 9 a b; if (!r) = true then pure false else do
   let a ← part 3 xs 1; let b ← part 3 ys 1; let r ← Op.equalIn d 3 a b; if (!r) = true then pure false else do
   let a ← part 3 xs 2; let b ← part 3 ys 2; let r ← Op.equalIn d 3 a b; if (!r) = true then pure false else pure true) := by kernel_rfl
theorem placeEq (d : Nat) (s : ByteArray) (l c : Int) (w : World) : (Op.equalIn (d + 2) 39 (.agg #[.string s, .int .i64 l, .int .i64 c]) (.agg #[.string s, .int .i64 l, .int .i64 c])).run Tryz.prog w = .ok true w := by
  rw [run_equalIn_agg w (d + 1) 39 _ _ uP sP, eqP]
  simp [Sem.run_bind, partP0, partP1, partP2, run_equalIn_string w d 9 s s Tryz.underlying9, run_equalIn_int w d 3 .i64 .i64 l l Tryz.underlying3, run_equalIn_int w d 3 .i64 .i64 c c Tryz.underlying3]
theorem eqF (d : Nat) (xs ys : Array Value) : Op.eqFields d xs ys (Tryz.prog.fieldsOf 41).toList = (do let a ← part 3 xs 0; let b ← part 3 ys 0; let r ← Op.equalIn d 3 a b; if (!r) = true then pure false else do
   let a ← part 39 xs 1; let b ← part 39 ys 1; let r ← Op.equalIn d 39 a b; if (!r) = true then pure false else pure true) := by kernel_rfl
theorem faultEq (d : Nat) (r : Int) (s : ByteArray) (l c : Int) (w : World) : (Op.equalIn (d + 3) 41 (.agg #[.int .i64 r, .string s, .int .i64 l, .int .i64 c]) (.agg #[.int .i64 r, .string s, .int .i64 l, .int .i64 c])).run Tryz.prog w = .ok true w := by
  rw [run_equalIn_agg w (d + 2) 41 _ _ uF sF, eqF]
  simp [Sem.run_bind, partF0, partF1, placeEq d s l c, run_equalIn_int w (d + 1) 3 .i64 .i64 r r Tryz.underlying3]
theorem faultNeq (r : Int) (s : ByteArray) (l c : Int) (w : World) : (binOp .neq 41 (.agg #[.int .i64 r, .string s, .int .i64 l, .int .i64 c]) (.agg #[.int .i64 r, .string s, .int .i64 l, .int .i64 c])).run Tryz.prog w = .ok (.bool false) w := by
  rw [run_neq_struct, show (10000 : Nat) = 9997 + 3 from rfl, faultEq]; simp
theorem placeNeq (s : ByteArray) (l c : Int) (w : World) : (binOp .neq 39 (.agg #[.string s, .int .i64 l, .int .i64 c]) (.agg #[.string s, .int .i64 l, .int .i64 c])).run Tryz.prog w = .ok (.bool false) w := by
  rw [run_neq_struct, show (10000 : Nat) = 9998 + 2 from rfl, placeEq]; simp
theorem placeEql (s : ByteArray) (l c : Int) (w : World) : (binOp .eql 39 (.agg #[.string s, .int .i64 l, .int .i64 c]) (.agg #[.string s, .int .i64 l, .int .i64 c])).run Tryz.prog w = .ok (.bool true) w := by
  rw [run_eql_struct, show (10000 : Nat) = 9998 + 2 from rfl, placeEq]; simp

theorem uR : Tryz.prog.underlying 59 = some (.struct (Tryz.prog.fieldsOf 59)) := by kernel_rfl
theorem sR : Tryz.prog.stoodInHeld 59 = false := by kernel_rfl
theorem partR0 (a b c d e f : Value) (w : World) : (part 9 #[a, b, c, d, e, f] 0).run Tryz.prog w = .ok a w := by kernel_rfl
theorem partR1 (a b c d e f : Value) (w : World) : (part 3 #[a, b, c, d, e, f] 1).run Tryz.prog w = .ok b w := by kernel_rfl
theorem partR2 (a b c d e f : Value) (w : World) : (part 3 #[a, b, c, d, e, f] 2).run Tryz.prog w = .ok c w := by kernel_rfl
theorem partR3 (a b c d e f : Value) (w : World) : (part 39 #[a, b, c, d, e, f] 3).run Tryz.prog w = .ok (.agg #[d, e, f]) w := by kernel_rfl
theorem eqR (d : Nat) (xs ys : Array Value) : Op.eqFields d xs ys (Tryz.prog.fieldsOf 59).toList = (do let a ← part 9 xs 0; let b ← part 9 ys 0; let r ← Op.equalIn d 9 a b; if (!r) = true then pure false else do
   let a ← part 3 xs 1; let b ← part 3 ys 1; let r ← Op.equalIn d 3 a b; if (!r) = true then pure false else do
   let a ← part 3 xs 2; let b ← part 3 ys 2; let r ← Op.equalIn d 3 a b; if (!r) = true then pure false else do
   let a ← part 39 xs 3; let b ← part 39 ys 3; let r ← Op.equalIn d 39 a b; if (!r) = true then pure false else pure true) := by kernel_rfl
theorem rowEq (d : Nat) (s f : ByteArray) (v y l c : Int) (w : World) : (Op.equalIn (d + 3) 59 (.agg #[.string s, .int .i64 v, .int .i64 y, .string f, .int .i64 l, .int .i64 c]) (.agg #[.string s, .int .i64 v, .int .i64 y, .string f, .int .i64 l, .int .i64 c])).run Tryz.prog w = .ok true w := by
  rw [run_equalIn_agg w (d + 2) 59 _ _ uR sR, eqR]
  simp [Sem.run_bind, partR0, partR1, partR2, partR3, placeEq d f l c, run_equalIn_string w (d + 1) 9 s s Tryz.underlying9, run_equalIn_int w (d + 1) 3 .i64 .i64 v v Tryz.underlying3, run_equalIn_int w (d + 1) 3 .i64 .i64 y y Tryz.underlying3]
theorem rowEql (s f : ByteArray) (v y l c : Int) (w : World) : (binOp .eql 59 (.agg #[.string s, .int .i64 v, .int .i64 y, .string f, .int .i64 l, .int .i64 c]) (.agg #[.string s, .int .i64 v, .int .i64 y, .string f, .int .i64 l, .int .i64 c])).run Tryz.prog w = .ok (.bool true) w := by
  rw [run_eql_struct, show (10000 : Nat) = 9997 + 3 from rfl, rowEq]; simp
attribute [local go_sem] rowEql

/-- A line that can be written. -/
def LnOk (p : Pl) : Prop := -1000000000 ≤ p.line ∧ p.line ≤ 1000000000

set_option maxHeartbeats 800000 in
theorem sameRow_any (s f : ByteArray) (v y l c : Int) (w : World) (hl : -1000000000 ≤ l ∧ l ≤ 1000000000) :
    Calls Tryz.prog 37 #[.agg #[.string s, .int .i64 v, .int .i64 y, .string f, .int .i64 l, .int .i64 c], .agg #[.string s, .int .i64 v, .int .i64 y, .string f, .int .i64 l, .int .i64 c], .int .i64 0] w fun e w' => e = .returned (.bool true) ∧ Kept [] w w' := by
  have hw : IntKind.i64.wrap (l + 0) = l := by rw [IntKind.wrap_i64]; omega
  cases hf : (f.toList == [])
  · go_enter Tryz.func37, Tryz.ntmps37
    go_wp2
    go_ret
    exact ⟨rfl, ((Kept.refl _ _).alloc _).alloc _⟩
  · go_enter Tryz.func37, Tryz.ntmps37
    go_wp2
    go_ret
    exact ⟨rfl, ((Kept.refl _ _).alloc _).alloc _⟩

theorem rw_at {w : World} {g : Nat} {cur : Array Value} {t : TypeId} {L : List Rw} (h : w.heap[g]? = some (.cells cur t (0, 0))) (hx : ∀ (j : Nat) v, (rwsV L)[j]? = some v → cur[j]? = some v) (k : Nat) (hk : k < L.length) :
    w.cell? ⟨g, k * 6, none⟩ = some (.string L[k].label) ∧ w.cell? ⟨g, k * 6 + 1, none⟩ = some (.int .i64 L[k].verdict) ∧ w.cell? ⟨g, k * 6 + 2, none⟩ = some (.int .i64 L[k].why) ∧ w.cell? ⟨g, k * 6 + 3, none⟩ = some (.string L[k].at_.file) ∧ w.cell? ⟨g, k * 6 + 4, none⟩ = some (.int .i64 L[k].at_.line) ∧ w.cell? ⟨g, k * 6 + 5, none⟩ = some (.int .i64 L[k].at_.col) := by
  have c := fun j (hj : j < 6) v (hv : (rwV L[k])[j]? = some v) => (cell_of h (k * 6 + j)).trans (hx _ _ ((rwsV_at L k hk j hj).trans hv))
  exact ⟨c 0 (by omega) _ rfl, c 1 (by omega) _ rfl, c 2 (by omega) _ rfl, c 3 (by omega) _ rfl, c 4 (by omega) _ rfl, c 5 (by omega) _ rfl⟩

set_option maxHeartbeats 1000000 in
set_option maxRecDepth 100000 in
theorem sameRows_some (g1 g2 c1 c2 : Nat) (L : List Rw) (w : World) (cur1 cur2 : Array Value) (t1 t2 : TypeId) (h1 : w.heap[g1]? = some (.cells cur1 t1 (0, 0))) (h2 : w.heap[g2]? = some (.cells cur2 t2 (0, 0)))
    (x1 : ∀ (j : Nat) v, (rwsV L)[j]? = some v → cur1[j]? = some v) (x2 : ∀ (j : Nat) v, (rwsV L)[j]? = some v → cur2[j]? = some v) (hL : L.length ≤ 100000) (hl : ∀ r ∈ L, LnOk r.at_) :
    Calls Tryz.prog 20 #[.slice (some ⟨g1, 0, none⟩) L.length c1, .slice (some ⟨g2, 0, none⟩) L.length c2, .int .i64 0] w fun e w' => e = .returned (.bool true) ∧ Kept [] w w' := by
  have hg1 := lt_of_get h1
  have hg2 := lt_of_get h2
  go_enter Tryz.func20, Tryz.ntmps20
  go_wp2
  go_loopg [7, 8] L.length (fun g i _ wr => ∃ k : Nat, k ≤ L.length ∧ g = L.length - k ∧ i = .int .i64 k ∧ Kept [] w wr)
  case atStart => exact ⟨0, by omega, by omega, rfl, Kept.refl _ _⟩
  case round =>
    obtain ⟨k, hk, hg, rfl, hK⟩ := hrel
    by_cases hlt : k < L.length
    · obtain ⟨a0, a1, a2, a3, a4, a5⟩ := rw_at (hK.get h1 (by simp)) x1 k hlt
      obtain ⟨b0, b1, b2, b3, b4, b5⟩ := rw_at (hK.get h2 (by simp)) x2 k hlt
      have hr := hl L[k] (List.getElem_mem hlt)
      have hs := hK.size
      generalize L[k] = r at *
      obtain ⟨la, ve, wy, ⟨fi, li, co⟩⟩ := r
      simp only [LnOk] at a0 a1 a2 a3 a4 a5 b0 b1 b2 b3 b4 b5 hr
      go_upto_region 6 with fail
      go_region_with (go_at_call 37; refine (sameRow_any la fi ve wy li co _ hr).mono ?_; rintro e w2 ⟨rfl, hk2⟩)
      all_goals
        have hK2 := hK.trans ((Kept.refl [] wr).drew.trans hk2)
        go_wp2
        go_roundg (L.length - (k + 1))
        case measure => omega
        case rel => exact ⟨k + 1, by omega, rfl, by go_num, hK2⟩
    · go_wp2
      go_ret
      exact ⟨rfl, hK⟩

theorem sameRows_nil (a1 a2 : Option Addr) (c1 c2 : Nat) (w : World) :
    Calls Tryz.prog 20 #[.slice a1 0 c1, .slice a2 0 c2, .int .i64 0] w fun e w' => e = .returned (.bool true) ∧ Kept [] w w' := by
  go_enter Tryz.func20, Tryz.ntmps20
  go_wp2
  refine wp_loop_rounds 1 ?_
  rw [rounds_succ]
  go_wp2
  go_ret
  exact ⟨rfl, Kept.refl _ _⟩

/-- Rows that were told: nil, or an array of their own, without spare room. -/
def rowsSl : Option Nat → Nat → Value
  | none, _ => .slice none 0 0
  | some g, n => .slice (some ⟨g, 0, none⟩) n n
def RowsAt (w : World) : Option Nat → List Rw → Prop
  | none, L => L = []
  | some g, L => 0 < L.length ∧ w.heap[g]? = some (.cells (rwsV L).toArray 59 (0, 0))
theorem RowsAt.kept {w w' : World} {o : Option Nat} {L : List Rw} {S : List Nat} (h : RowsAt w o L) (k : Kept S w w') (hS : ∀ g, o = some g → g ∉ S) : RowsAt w' o L := by
  cases o with
  | none => exact h
  | some g => exact ⟨h.1, k.get h.2 (hS g rfl)⟩
theorem RowsAt.still {w w' : World} {o : Option Nat} {L : List Rw} (h : RowsAt w o L) (k : Kept [] w w') : RowsAt w' o L := h.kept k (by simp)
theorem RowsAt.lt {w : World} {o : Option Nat} {L : List Rw} (h : RowsAt w o L) (g : Nat) (e : o = some g) : g < w.heap.size := by
  subst e; exact lt_of_get h.2
/-- Rows that can be told. -/
structure RwsOk (L : List Rw) : Prop where
  len : L.length ≤ 100000
  line : ∀ r ∈ L, LnOk r.at_

theorem sameRows_any (o1 o2 : Option Nat) (L : List Rw) (w : World) (h1 : RowsAt w o1 L) (h2 : RowsAt w o2 L) (ok : RwsOk L) :
    Calls Tryz.prog 20 #[rowsSl o1 L.length, rowsSl o2 L.length, .int .i64 0] w fun e w' => e = .returned (.bool true) ∧ Kept [] w w' := by
  cases o1 with
  | none =>
    have hn : L = [] := h1
    subst hn
    cases o2 with
    | none => exact sameRows_nil _ _ _ _ _
    | some g => exact absurd h2.1 (by simp)
  | some g1 =>
    cases o2 with
    | none => have hn : L = [] := h2
              subst hn
              exact absurd h1.1 (by simp)
    | some g2 => exact sameRows_some g1 g2 _ _ L w _ _ _ _ h1.2 h2.2 (fun j v h => by simpa using h) (fun j v h => by simpa using h) ok.len ok.line

set_option maxHeartbeats 1000000 in
theorem begins_any (o1 o2 : Option Nat) (L M : List Rw) (w : World) (h1 : RowsAt w o1 L) (h2 : RowsAt w o2 (L ++ M)) (ok : RwsOk (L ++ M)) :
    Calls Tryz.prog 36 #[rowsSl o1 L.length, rowsSl o2 (L ++ M).length] w fun e w' => e = .returned (.bool true) ∧ Kept [] w w' := by
  have hlen := ok.len
  have hml : (L ++ M).length = L.length + M.length := List.length_append
  cases o1 with
  | none =>
    have hn : L = [] := h1
    subst hn
    cases o2 with
    | none =>
      go_enter Tryz.func36, Tryz.ntmps36
      unfold rowsSl
      go_wp2_with fail
      refine (sameRows_nil _ _ _ _ _).mono ?_
      rintro e w1 ⟨rfl, hk⟩
      go_wp2
      go_ret
      exact ⟨rfl, hk⟩
    | some g2 =>
      go_enter Tryz.func36, Tryz.ntmps36
      unfold rowsSl
      simp only [List.nil_append] at hlen ⊢
      generalize M.length = n at *
      go_wp2_with fail
      refine (sameRows_nil _ _ _ _ _).mono ?_
      rintro e w1 ⟨rfl, hk⟩
      go_wp2
      go_ret
      exact ⟨rfl, hk⟩
  | some g1 =>
    cases o2 with
    | none => have hn : L ++ M = [] := h2
              have : L.length = 0 := by rw [(List.append_eq_nil_iff.1 hn).1]; rfl
              have := h1.1
              omega
    | some g2 =>
      have SR := fun c1 c2 => sameRows_some g1 g2 c1 c2 L w _ _ _ _ h1.2 h2.2 (fun j v h => by simpa using h) (fun j v hj => by
        have hl := (List.getElem?_eq_some_iff.1 hj).1
        unfold rwsV at hj hl ⊢
        rw [List.flatMap_append]
        simp only [List.getElem?_toArray]
        rw [List.getElem?_append_left hl]; exact hj) (by omega) (fun r hr => ok.line r (List.mem_append_left _ hr))
      have HSR := (show Hid _ from SR)
      have hpos := h1.1
      clear SR ok
      rw [hml] at hlen ⊢
      generalize L.length = n at *
      generalize M.length = m at *
      go_enter Tryz.func36, Tryz.ntmps36
      unfold rowsSl
      go_wp2_with fail
      refine (HSR.out _ _).mono ?_
      rintro e w1 ⟨rfl, hk⟩
      go_wp2
      go_ret
      exact ⟨rfl, hk⟩

end Go.Proofs.YtcipkfhpcbddiaaGreat

/- The verifier: New, drop, Put. -/
namespace Go.Proofs.YtcipkfhpcbddiaaGreat
open Go.RowKit

/-- A verifier: its table, and what it has of a report. -/
def VerAt (w : World) (x : Nat) (fs : List (ByteArray × ByteArray)) (rep : Bool) (a b c : Value) : Prop := TabAt w x 86 fs [.bool rep, a, b, c]
def nilV : Value := .slice none 0 0
/-- Without a report. -/
def BareAt (w : World) (x : Nat) (fs : List (ByteArray × ByteArray)) : Prop := VerAt w x fs false nilV nilV nilV
def SomeAt (w : World) (x : Nat) (fs : List (ByteArray × ByteArray)) : Prop := ∃ rep a b c, VerAt w x fs rep a b c
theorem BareAt.anyR {w : World} {x : Nat} {fs : List (ByteArray × ByteArray)} (h : BareAt w x fs) : SomeAt w x fs := ⟨_, _, _, _, h⟩
theorem VerAt.anyR {w : World} {x : Nat} {fs : List (ByteArray × ByteArray)} {rep : Bool} {a b c : Value} (h : VerAt w x fs rep a b c) : SomeAt w x fs := ⟨_, _, _, _, h⟩
theorem BareAt.kept {w w' : World} {x : Nat} {fs : List (ByteArray × ByteArray)} {S : List Nat} (h : BareAt w x fs) (k : Kept S w w') (hx : x ∉ S) : BareAt w' x fs := TabAt.kept h k hx
theorem SomeAt.kept {w w' : World} {x : Nat} {fs : List (ByteArray × ByteArray)} {S : List Nat} (h : SomeAt w x fs) (k : Kept S w w') (hx : x ∉ S) : SomeAt w' x fs := by
  obtain ⟨r, a, b, c, h⟩ := h; exact ⟨r, a, b, c, TabAt.kept h k hx⟩
theorem SomeAt.lt {w : World} {x : Nat} {fs : List (ByteArray × ByteArray)} (h : SomeAt w x fs) : x < w.heap.size := by
  obtain ⟨r, a, b, c, h⟩ := h; exact TabAt.lt h
theorem VerAt.cells {w : World} {x : Nat} {fs : List (ByteArray × ByteArray)} {rep : Bool} {a b c : Value} (h : VerAt w x fs rep a b c) :
    w.cell? ⟨x, 9, none⟩ = some (.bool rep) ∧ w.cell? ⟨x, 10, none⟩ = some a ∧ w.cell? ⟨x, 11, none⟩ = some b ∧ w.cell? ⟨x, 12, none⟩ = some c := by
  refine ⟨?_, ?_, ?_, ?_⟩ <;> (rw [cell_of h.1]; rfl)
def turnV (w : World) (x : Nat) (rep : Bool) (a b c : Value) : World := (((w.setCell ⟨x, 9, none⟩ (.bool rep)).setCell ⟨x, 10, none⟩ a).setCell ⟨x, 11, none⟩ b).setCell ⟨x, 12, none⟩ c
theorem VerAt.turn {w : World} {x : Nat} {fs : List (ByteArray × ByteArray)} {rep : Bool} {a b c : Value} (h : VerAt w x fs rep a b c) (rep' : Bool) (a' b' c' : Value) : VerAt (turnV w x rep' a' b' c') x fs rep' a' b' c' := by
  refine ⟨?_, h.2⟩
  unfold turnV
  rw [block_setCell (block_setCell (block_setCell (block_setCell h.1 9 (.bool rep')) 10 a') 11 b') 12 c']
  rfl
theorem turnV_kept {S : List Nat} {w w' : World} (h : Kept S w w') {x : Nat} (hx : x ∈ S ∨ w.heap.size ≤ x) (rep : Bool) (a b c : Value) : Kept S w (turnV w' x rep a b c) :=
  (((h.setCell hx _).setCell hx _).setCell hx _).setCell hx _

theorem build_ver (w : World) : (Instr.build 86 #[]).run Tryz.prog w = .ok (.agg #[.string ⟨#[]⟩, .string ⟨#[]⟩, .string ⟨#[]⟩, .string ⟨#[]⟩, .string ⟨#[]⟩, .string ⟨#[]⟩, .string ⟨#[]⟩, .string ⟨#[]⟩, .int .i64 0, .bool false, .slice none 0 0, .slice none 0 0, .slice none 0 0]) w :=
  run_build w 86 _ _ (by kernel_rfl)
theorem build_norep (w : World) : (Instr.build 84 #[]).run Tryz.prog w = .ok (.agg #[.slice none 0 0, .slice none 0 0, .slice none 0 0]) w :=
  run_build w 84 _ _ (by kernel_rfl)
attribute [local go_sem] build_ver build_norep

theorem new_any (w : World) : Calls Tryz.prog 13 #[] w fun e w' => e = .returned (.pointer (some ⟨w.heap.size, 0, none⟩)) ∧ BareAt w' w.heap.size [] ∧ Kept [] w w' := by
  go_enter Tryz.func13, Tryz.ntmps13
  go_wp2
  go_ret
  exact ⟨rfl, ⟨heap_alloc_new _ _, by simp⟩, (Kept.refl _ _).alloc _⟩

set_option maxHeartbeats 400000 in
theorem drop_any (x : Nat) (fs : List (ByteArray × ByteArray)) (w : World) (h : SomeAt w x fs) :
    Calls Tryz.prog 33 #[.pointer (some ⟨x, 0, none⟩)] w fun e w' => e = .returned (.tuple #[]) ∧ BareAt w' x fs ∧ Kept [x] w w' := by
  obtain ⟨rep, a, b, c, h⟩ := h
  obtain ⟨c9, c10, c11, c12⟩ := h.cells
  have hf := TabAt.free h
  have HT := (show Hid _ from h.turn false (.slice none 0 0) (.slice none 0 0) (.slice none 0 0))
  unfold turnV at HT
  have hxw := TabAt.lt h
  go_enter Tryz.func33, Tryz.ntmps33
  go_wp2
  go_end0
  exact ⟨rfl, HT.out, turnV_kept (Kept.refl _ _) (Or.inl (by simp)) _ _ _ _⟩

theorem vput_any (x : Nat) (n d : ByteArray) (fs : List (ByteArray × ByteArray)) (w : World) (h : SomeAt w x fs) (hn : n.size ≤ 1073741824) (hd : d.size ≤ 4294967296) :
    Calls Tryz.prog 14 #[.pointer (some ⟨x, 0, none⟩), .string n, .string d] w fun e w' => e = .returned (.int .i64 (putF fs n d).1) ∧ SomeAt w' x (putF fs n d).2 ∧ ((putF fs n d).1 = 0 → BareAt w' x (putF fs n d).2) ∧ Kept [x] w w' := by
  obtain ⟨rep, a, b, c, h⟩ := h
  have PF := put_any x 86 n d fs [.bool rep, a, b, c] w h hn hd
  have HPF := (show Hid _ from PF)
  clear PF
  generalize putF fs n d = pf at *
  obtain ⟨e0, fs'⟩ := pf
  simp only at HPF ⊢
  cases he : (e0 == 0)
  · go_enter Tryz.func14, Tryz.ntmps14
    go_wp2_with fail
    refine Calls.mono HPF.out ?_
    rintro e w2 ⟨rfl, h2, hk2⟩
    go_wp2
    go_ret
    exact ⟨rfl, ⟨rep, a, b, c, h2⟩, fun e => by subst e; simp at he, hk2⟩
  · go_enter Tryz.func14, Tryz.ntmps14
    go_wp2_with fail
    refine Calls.mono HPF.out ?_
    rintro e w2 ⟨rfl, h2, hk2⟩
    go_wp2_with fail
    refine (drop_any x fs' w2 ⟨rep, a, b, c, h2⟩).mono ?_
    rintro e w3 ⟨rfl, h3, hk3⟩
    go_wp2
    go_ret
    exact ⟨rfl, h3.anyR, fun _ => h3, hk2.trans hk3⟩

end Go.Proofs.YtcipkfhpcbddiaaGreat

/- Package metaproofkeep: holds, lines, pick, small, rows that are nil. -/
namespace Go.Proofs.YtcipkfhpcbddiaaGreat
open Go.RowKit

set_option maxHeartbeats 400000 in
theorem kholds_any (s : ByteArray) (w : World) (hs : s.size ≤ 4294967296) :
    Calls Tryz.prog 17 #[.string s, .string ⟨#[36, 91]⟩] w fun e w' => e = .returned (.bool (holdsF s)) ∧ w' = w := by
  go_enter Tryz.func17, Tryz.ntmps17
  go_wp2
  go_loopg [5] s.size (fun g i wr => ∃ k : Nat, k ≤ s.size ∧ g = s.size - k ∧ i = .int .i64 k ∧ Hid (∀ i, i < k → i + 2 ≤ s.size → incAt s i = false) ∧ wr = w)
  case atStart => exact ⟨0, by omega, by omega, rfl, fun i h => by omega, rfl⟩
  case round =>
    obtain ⟨k, hk, hg, rfl, hall, rfl⟩ := hrel
    by_cases hlt : k + 2 ≤ s.size
    · cases hb : ((s.extract k (k + 2)).toList == [36, 91])
      · go_wp2
        go_roundg (s.size - (k + 1))
        case measure => omega
        case rel =>
          refine ⟨k + 1, by omega, rfl, by go_num, ?_, rfl⟩
          intro i hi h2
          by_cases e : i = k
          · subst e; exact hb
          · exact hall.out i (by omega) h2
      · have HY : Hid (holdsF s = true) := any_yes k (by omega) (by simp [hlt, incAt, hb])
        go_wp2
        go_ret
        exact ⟨ret_bool HY.out.symm, rfl⟩
    · have HY : Hid (holdsF s = false) := any_no (fun i hi => by
        by_cases h2 : i + 2 ≤ s.size
        · simp [hall.out i (by omega) h2]
        · simp [h2])
      go_wp2
      go_ret
      exact ⟨ret_bool HY.out.symm, rfl⟩

set_option maxHeartbeats 400000 in
theorem lines_any (s : ByteArray) (w : World) (hs : s.size ≤ 1073741824) :
    Calls Tryz.prog 22 #[.string s] w fun e w' => e = .returned (.int .i64 (lineAt s s.size - 1)) ∧ w' = w := by
  go_enter Tryz.func22, Tryz.ntmps22
  go_wp2
  go_loopg [3, 4] s.size (fun g m i wr => ∃ (k : Nat) (l : Int), k ≤ s.size ∧ g = s.size - k ∧ i = .int .i64 k ∧ m = .int .i64 l ∧ Hid (l = lineAt s k - 1) ∧ 0 ≤ l ∧ l ≤ k ∧ wr = w)
  case atStart => exact ⟨0, 0, by omega, by omega, rfl, rfl, rfl, by omega, by omega, rfl⟩
  case round =>
    obtain ⟨k, l, hk, hg, rfl, rfl, hl, hl0, hlk, rfl⟩ := hrel
    by_cases hlt : k < s.size
    · cases hb : ((s[k].toNat : Int) == 10)
      · have HL : Hid (l = lineAt s (k + 1) - 1) := by show l = _; rw [lineAt, byteAt_of s k hlt, hb, hl.out]; simp
        clear hl
        go_wp2
        go_roundg (s.size - (k + 1))
        case measure => omega
        case rel => exact ⟨k + 1, l, by omega, rfl, by go_num, rfl, HL, hl0, by omega, rfl⟩
      · have HL : Hid (l + 1 = lineAt s (k + 1) - 1) := by show l + 1 = _; rw [lineAt, byteAt_of s k hlt, hb, hl.out]; simp
        clear hl
        go_wp2
        go_roundg (s.size - (k + 1))
        case measure => omega
        case rel => exact ⟨k + 1, l + 1, by omega, rfl, by go_num, rfl, HL, by omega, by omega, rfl⟩
    · have HL : Hid (l = lineAt s s.size - 1) := by show l = _; rw [hl.out, show k = s.size by omega]
      clear hl
      go_wp2
      go_ret
      exact ⟨ret_int HL.out, rfl⟩

/-- Which of n (the raw number c: any). -/
theorem pick_any (c : Int) (n : Nat) (w : World) (hc : -9223372036854775808 ≤ c ∧ c ≤ 9223372036854775807) (hn : 1 ≤ n ∧ n ≤ 1073741824) :
    Calls Tryz.prog 25 #[.int .i64 c, .int .i64 n] w fun e w' => (∃ p : Nat, e = .returned (.int .i64 p) ∧ p < n) ∧ w' = w := by
  have hn1 : (1 : Int) ≤ (n : Int) := by omega
  have hn2 : (n : Int) ≤ 1073741824 := by omega
  have hnz : ((n : Int) == 0) = false := beq_eq_false_iff_ne.2 (by omega)
  by_cases h0 : c < 0
  · have h1 : 0 ≤ (-(c + 1)).tmod n ∧ (-(c + 1)).tmod n < n := ⟨Int.tmod_nonneg _ (by omega), Int.tmod_lt_of_pos _ (by omega)⟩
    have H1 := (show Hid _ from h1)
    clear h1
    go_enter Tryz.func25, Tryz.ntmps25
    go_wp2
    all_goals go_ret
    all_goals
      have h1 := H1.out
      refine ⟨⟨((-(c + 1)).tmod n).toNat, ret_int ?_, by omega⟩, rfl⟩
      first | (simp only [Int.neg_tmod] at *; omega) | (rw [Int.toNat_of_nonneg h1.1])
  · have h1 : 0 ≤ c.tmod n ∧ c.tmod n < n := ⟨Int.tmod_nonneg _ (by omega), Int.tmod_lt_of_pos _ (by omega)⟩
    have h2 : c.tmod n = c % n := Int.tmod_eq_emod_of_nonneg (by omega)
    have H1 := (show Hid _ from h1)
    have H2 := (show Hid _ from h2)
    clear h1 h2
    go_enter Tryz.func25, Tryz.ntmps25
    go_wp2
    all_goals go_ret
    all_goals
      have h1 := H1.out
      have h2 := H2.out
      refine ⟨⟨(c.tmod n).toNat, ret_int ?_, by omega⟩, rfl⟩
      first | (rw [Int.toNat_of_nonneg h1.1]; done) | (rw [Int.toNat_of_nonneg h1.1, h2])

/-- The caller's own chunks: at address a, in a world. -/
def ChunksAt (w : World) (b off : Nat) (l : List ByteArray) : Prop := b < w.heap.size ∧ ∀ i (h : i < l.length), w.cell? ⟨b, off + i, none⟩ = some (.string l[i])
theorem ChunksAt.kept {w w' : World} {b off : Nat} {l : List ByteArray} {S : List Nat} (h : ChunksAt w b off l) (hk : Kept S w w') (hb : b ∉ S) : ChunksAt w' b off l :=
  ⟨Nat.lt_of_lt_of_le h.1 hk.size, fun i hi => (World.cell?_of_block (hk.block b h.1 hb)).trans (h.2 i hi)⟩

def sumTo (l : List ByteArray) : Nat → Int
  | 0 => l.length
  | k + 1 => sumTo l k + (l.getD k ⟨#[]⟩).size
theorem sumTo_ge (l : List ByteArray) (k : Nat) : (l.length : Int) ≤ sumTo l k ∧ ∀ i, i < k → ((l.getD i ⟨#[]⟩).size : Int) ≤ sumTo l k := by
  induction k with
  | zero => simp [sumTo]
  | succ k ih =>
    rw [sumTo]
    refine ⟨by omega, fun i hi => ?_⟩
    by_cases e : i = k
    · subst e; omega
    · have := ih.2 i (by omega); omega

set_option maxHeartbeats 800000 in
theorem small_any (b off cap : Nat) (l : List ByteArray) (w : World) (hl : l.length ≤ 140737488351232) (hls : ∀ x, x ∈ l → x.size ≤ 140737488351232) (hc : ChunksAt w b off l) :
    Calls Tryz.prog 6 #[.slice (some ⟨b, off, none⟩) l.length cap] w fun e w' => (∃ r, e = .returned (.bool r) ∧ (r = true → l.length ≤ 1073741824 ∧ ∀ i, i < l.length → (l.getD i ⟨#[]⟩).size ≤ 1073741824)) ∧ w' = w := by
  by_cases h0 : 1073741824 < l.length
  · go_enter Tryz.func6, Tryz.ntmps6
    go_wp2
    go_ret
    exact ⟨⟨false, rfl, by simp⟩, rfl⟩
  · go_enter Tryz.func6, Tryz.ntmps6
    go_wp2
    go_loopg [3, 4] l.length (fun g m i wr => ∃ (k : Nat) (z : Int), k ≤ l.length ∧ g = l.length - k ∧ i = .int .i64 k ∧ m = .int .i64 z ∧ Hid (z = sumTo l k) ∧ 0 ≤ z ∧ z ≤ 1073741824 ∧ wr = w)
    case atStart => exact ⟨0, l.length, by omega, by omega, rfl, rfl, rfl, by omega, by omega, rfl⟩
    case round =>
      obtain ⟨k, z, hk, hg, rfl, rfl, hz, hz0, hz1, rfl⟩ := hrel
      by_cases hlt : k < l.length
      · have c1 := hc.2 k hlt
        have e0 : l.getD k ⟨#[]⟩ = l[k] := by rw [List.getD_eq_getElem?_getD, List.getElem?_eq_getElem hlt]; rfl
        have hx := hls l[k] (List.getElem_mem hlt)
        have HZ : Hid (sumTo l (k + 1) = z + (l[k]).size) := by show sumTo l (k + 1) = _; rw [sumTo, e0, hz.out]
        clear hz e0
        by_cases hb : (1073741824 : Int) < z + (l[k]).size
        · go_wp2
          go_ret
          exact ⟨⟨false, rfl, by simp⟩, rfl⟩
        · go_wp2
          go_roundg (l.length - (k + 1))
          case measure => omega
          case rel => exact ⟨k + 1, z + (l[k]).size, by omega, rfl, by go_num, rfl, HZ.out.symm, by omega, by omega, rfl⟩
      · have HZ : Hid (z = sumTo l l.length) := by show z = _; rw [hz.out, show k = l.length by omega]
        clear hz
        go_wp2
        go_ret
        refine ⟨⟨true, rfl, fun _ => ⟨by omega, fun i hi => ?_⟩⟩, rfl⟩
        have := (sumTo_ge l l.length).2 i hi
        rw [← HZ.out] at this
        omega

end Go.Proofs.YtcipkfhpcbddiaaGreat

/- Package reader: faultOf, readWord of a word that is no inclusion. -/
namespace Go.Proofs.YtcipkfhpcbddiaaGreat
open Go.RowKit

theorem build_fault (w : World) (r l c : Int) (n : ByteArray) : (Instr.build 41 #[(0, .int .i64 r), (1, .agg #[.string n, .int .i64 l, .int .i64 c])]).run Tryz.prog w = .ok (.agg #[.int .i64 r, .string n, .int .i64 l, .int .i64 c]) w :=
  run_build w 41 _ _ (by kernel_rfl)
theorem build_nofault (w : World) : (Instr.build 41 #[]).run Tryz.prog w = .ok (.agg #[.int .i64 0, .string ⟨#[]⟩, .int .i64 0, .int .i64 0]) w :=
  run_build w 41 _ _ (by kernel_rfl)
attribute [local go_sem] build_fault build_nofault

set_option maxHeartbeats 400000 in
theorem faultOf_any (t n : ByteArray) (r l c : Int) (f : Bool) (w : World) :
    Calls Tryz.prog 64 #[.agg #[.string t, .int .i64 r, .bool f, .string n, .int .i64 l, .int .i64 c]] w fun e w' => e = .returned (.agg #[.int .i64 (if f = true then 7 else r), .string n, .int .i64 l, .int .i64 c]) ∧ Kept [] w w' := by
  cases f
  · go_enter Tryz.func64, Tryz.ntmps64
    go_wp2
    exact bodyPost_ret (v := .agg #[.int .i64 r, .string n, .int .i64 l, .int .i64 c]) (by simp [results, Tryz.results64, go_sem]) rfl ⟨rfl, ((Kept.refl _ _).alloc _).alloc _⟩
  · go_enter Tryz.func64, Tryz.ntmps64
    go_wp2
    exact bodyPost_ret (v := .agg #[.int .i64 7, .string n, .int .i64 l, .int .i64 c]) (by simp [results, Tryz.results64, go_sem]) rfl ⟨rfl, ((Kept.refl _ _).alloc _).alloc _⟩

/-- The cells ahead of the database in a reader. -/
def preOf (v : Nat) (bg : List Bool) : List Value := .pointer (some ⟨v, 0, none⟩) :: bg.map Value.bool
theorem preOf_len (v : Nat) (bg : List Bool) (h : bg.length = 4) : (preOf v bg).length = 5 := by simp [preOf, h]

theorem DbIs.pre {w : World} {b t : Nat} {pre post : List Value} {d : Db} {H : Nat → Hd} (h : DbIs w b t pre post d H) (i : Nat) (hi : i < pre.length) (u : Value) :
    DbIs (w.setCell ⟨b, i, none⟩ u) b t (pre.set i u) post d H ∧ Turned b w H (w.setCell ⟨b, i, none⟩ u) H := by
  refine ⟨⟨?_, ?_, h.apart, h.off⟩, (KeptP.refl _ _).setCell (Or.inl (Or.inl rfl)) _, fun _ hk => Or.inl hk⟩
  · rw [block_setCell h.blk, List.setIfInBounds_toArray, List.set_append_left _ _ hi]
  · intro j
    refine (h.own j).moved (fun k hk => Below.heap_setCell _ _ _ _ ?_)
    rintro rfl
    exact h.off j hk
theorem DbIs.preCell {w : World} {b t : Nat} {pre post : List Value} {d : Db} {H : Nat → Hd} (h : DbIs w b t pre post d H) (i : Nat) (hi : i < pre.length) : w.cell? ⟨b, i, none⟩ = pre[i]? := by
  rw [cell_of h.blk]; simp [List.getElem?_append_left hi]

/-- What reading may turn: the database, and the scanner. -/
def Moved (b sp : Nat) (w : World) (H : Nat → Hd) (w' : World) (H' : Nat → Hd) : Prop :=
  KeptP (fun k => k = b ∨ k = sp ∨ InH H k) w w' ∧ ∀ k, InH H' k → InH H k ∨ w.heap.size ≤ k
theorem Turned.moved {b : Nat} {w w' : World} {H H' : Nat → Hd} (sp : Nat) (t : Turned b w H w' H') : Moved b sp w H w' H' :=
  ⟨⟨t.1.os, t.1.tape, t.1.output, t.1.size, fun k hk hn => t.1.block k hk (fun e => hn (e.elim Or.inl (fun e => Or.inr (Or.inr e))))⟩, t.2⟩
theorem Moved.trans {b sp : Nat} {w0 w1 w2 : World} {H0 H1 H2 : Nat → Hd} (a : Moved b sp w0 H0 w1 H1) (c : Moved b sp w1 H1 w2 H2) : Moved b sp w0 H0 w2 H2 := by
  refine ⟨⟨c.1.os.trans a.1.os, c.1.tape.trans a.1.tape, c.1.output.trans a.1.output, Nat.le_trans a.1.size c.1.size, ?_⟩, ?_⟩
  · intro k hk hn
    rw [← a.1.block k hk hn]
    refine c.1.block k (Nat.lt_of_lt_of_le hk a.1.size) ?_
    rintro (e | e | hm)
    · exact hn (Or.inl e)
    · exact hn (Or.inr (Or.inl e))
    · rcases a.2 k hm with h | h
      · exact hn (Or.inr (Or.inr h))
      · omega
  · intro k hk
    rcases c.2 k hk with h | h
    · exact a.2 k h
    · exact Or.inr (Nat.le_trans a.1.size h)
theorem Moved.refl (b sp : Nat) (w : World) (H : Nat → Hd) : Moved b sp w H w H := ⟨KeptP.refl _ _, fun _ hk => Or.inl hk⟩
theorem Moved.still {b sp : Nat} {w0 w1 w2 : World} {H0 H1 : Nat → Hd} (a : Moved b sp w0 H0 w1 H1) (c : Kept [] w1 w2) : Moved b sp w0 H0 w2 H1 :=
  a.trans ⟨c.toP (by simp), fun _ hk => Or.inl hk⟩
theorem Moved.first {b sp : Nat} {w0 w1 w2 : World} {H0 H1 : Nat → Hd} (c : Kept [] w0 w1) (a : Moved b sp w1 H0 w2 H1) : Moved b sp w0 H0 w2 H1 :=
  Moved.trans ⟨c.toP (by simp), fun _ hk => Or.inl hk⟩ a
theorem Moved.scan {b sp : Nat} {w0 w1 w2 : World} {H0 H1 : Nat → Hd} (a : Moved b sp w0 H0 w1 H1) (c : Kept [sp] w1 w2) : Moved b sp w0 H0 w2 H1 :=
  a.trans ⟨c.toP (by intro k hk _; simp at hk; exact Or.inr (Or.inl hk)), fun _ hk => Or.inl hk⟩
/-- Writes into blocks that are new do not count. -/
theorem Moved.beyond {b sp : Nat} {w wr w' : World} {H H1 : Nat → Hd} {S : List Nat} (T : Moved b sp w H wr H1) (k : Kept S wr w') (hS : ∀ x, x ∈ S → w.heap.size ≤ x) : Moved b sp w H w' H1 :=
  ⟨⟨k.os.trans T.1.os, k.tape.trans T.1.tape, k.output.trans T.1.output, Nat.le_trans T.1.size k.size, fun i hi hn => by
    rw [← T.1.block i hi hn]
    exact k.block i (Nat.lt_of_lt_of_le hi T.1.size) (fun hm => by have := hS i hm; omega)⟩, T.2⟩
theorem Moved.fresh {b sp : Nat} {w w2 : World} {H H2 : Nat → Hd} (T : Moved b sp w H w2 H2) (F : Nat) (h1 : F < w.heap.size) (h2 : ¬ InH H F) : ¬ InH H2 F := by
  intro hm
  rcases T.2 F hm with h | h
  · exact h2 h
  · omega
theorem Turned.fresh {b : Nat} {w w2 : World} {H H2 : Nat → Hd} (T : Turned b w H w2 H2) (F : Nat) (h1 : F < w.heap.size) (h2 : ¬ InH H F) : ¬ InH H2 F := by
  intro hm
  rcases T.2 F hm with h | h
  · exact h2 h
  · omega

theorem four_in {w : World} {r : Nat} (a0 a1 a2 a3 : Value) : Kept [r] w ((((w.setCell ⟨r, 0, none⟩ a0).setCell ⟨r, 1, none⟩ a1).setCell ⟨r, 2, none⟩ a2).setCell ⟨r, 3, none⟩ a3) :=
  ((((Kept.refl _ _).setCell (Or.inl (by simp)) _).setCell (Or.inl (by simp)) _).setCell (Or.inl (by simp)) _).setCell (Or.inl (by simp)) _
theorem six_in {w : World} {r : Nat} (a0 a1 a2 a3 a4 a5 : Value) : Kept [r] w ((((((w.setCell ⟨r, 0, none⟩ a0).setCell ⟨r, 1, none⟩ a1).setCell ⟨r, 2, none⟩ a2).setCell ⟨r, 3, none⟩ a3).setCell ⟨r, 4, none⟩ a4).setCell ⟨r, 5, none⟩ a5) :=
  ((((((Kept.refl _ _).setCell (Or.inl (by simp)) _).setCell (Or.inl (by simp)) _).setCell (Or.inl (by simp)) _).setCell (Or.inl (by simp)) _).setCell (Or.inl (by simp)) _).setCell (Or.inl (by simp)) _
def zeroFault : Array Value := #[.int .i64 0, .string ⟨#[]⟩, .int .i64 0, .int .i64 0]
theorem zero_cells {w : World} {r : Nat} (h : w.heap[r]? = some (.cells zeroFault 41 (0, 0))) :
    w.cell? ⟨r, 0, none⟩ = some (.int .i64 0) ∧ w.cell? ⟨r, 1, none⟩ = some (.string ⟨#[]⟩) ∧ w.cell? ⟨r, 2, none⟩ = some (.int .i64 0) ∧ w.cell? ⟨r, 3, none⟩ = some (.int .i64 0) := by
  refine ⟨?_, ?_, ?_, ?_⟩ <;> (rw [cell_of h]; rfl)

/-- The end of a call that answers a fault: its variable F has been written. -/
theorem flt_after {w w2 : World} {b t F : Nat} {pre post : List Value} {d : Db} {H H2 : Nat → Hd} (D : DbIs w2 b t pre post d H2) (T : Turned b w H w2 H2) (h1 : w.heap.size ≤ F) (h2 : b ≠ F) (h3 : ¬ InH H2 F) (a0 a1 a2 a3 : Value) :
    DbIs ((((w2.setCell ⟨F, 0, none⟩ a0).setCell ⟨F, 1, none⟩ a1).setCell ⟨F, 2, none⟩ a2).setCell ⟨F, 3, none⟩ a3) b t pre post d H2 ∧
    Turned b w H ((((w2.setCell ⟨F, 0, none⟩ a0).setCell ⟨F, 1, none⟩ a1).setCell ⟨F, 2, none⟩ a2).setCell ⟨F, 3, none⟩ a3) H2 := by
  refine ⟨D.kept (four_in _ _ _ _) (by simpa using h2) (fun x hx => by simp; rintro rfl; exact h3 hx), ?_, T.2⟩
  exact (((T.1.setCell (Or.inr h1) _).setCell (Or.inr h1) _).setCell (Or.inr h1) _).setCell (Or.inr h1) _

set_option maxHeartbeats 1600000 in
set_option maxRecDepth 100000 in
theorem readWordTake_any (b t : Nat) (v : Nat) (bg : List Bool) (hbg : bg.length = 4) (d : Db) (H : Nat → Hd) (sp : Value) (x n : ByteArray) (l c : Int) (w : World) (h : DbIs w b t (preOf v bg) [] d H) (hs : Small d 10000000) (hx : x.size ≤ 1073741824) (hi : Inner d 100000000)
    (hn : (x.toList == [36, 91]) = false) :
    Calls Tryz.prog 62 #[.pointer (some ⟨b, 0, none⟩), sp, .agg #[.string x, .int .i64 0, .bool false, .string n, .int .i64 l, .int .i64 c]] w fun e w' =>
      e = .returned (fltV (if ((takeF d x ⟨n, l, c⟩).1 == 0) = true then noFlt else ((takeF d x ⟨n, l, c⟩).1, ⟨n, l, c⟩))) ∧
      ∃ H', DbIs w' b t (preOf v bg) [] (takeF d x ⟨n, l, c⟩).2 H' ∧ Turned b w H w' H' := by
  have hbw := h.lt
  have TK := fun (w' : World) (h' : DbIs w' b t (preOf v bg) [] d H) => take_any b t 5 (preOf v bg) [] d H x n l c w' h' (preOf_len v bg hbg) hs hx hi
  unfold TakeSays at TK
  have HTK := (show Hid _ from TK)
  clear TK
  generalize takeF d x ⟨n, l, c⟩ = td at *
  obtain ⟨r, d'⟩ := td
  simp only at HTK
  obtain ⟨W, hW⟩ : ∃ W, W = ((w.alloc (.cells #[.string x, .int .i64 0, .bool false, .string n, .int .i64 l, .int .i64 c] 133)).alloc (.cells #[.int .i64 0, .string ⟨#[]⟩, .int .i64 0, .int .i64 0] 41)) := ⟨_, rfl⟩
  have hK : Kept [] w W := by rw [hW]; exact ((Kept.refl [] w).alloc _).alloc _
  have hD : DbIs W b t (preOf v bg) [] d H := h.still hK
  have hI : W.heap[w.heap.size]? = some (.cells #[.string x, .int .i64 0, .bool false, .string n, .int .i64 l, .int .i64 c] 133 (0, 0)) := by
    rw [hW]; exact ((Kept.refl [] _).alloc _).get (heap_alloc_new _ _) (by simp)
  have hF : W.heap[w.heap.size + 1]? = some (.cells zeroFault 41 (0, 0)) := by
    rw [hW]
    have := heap_alloc_new (w.alloc (.cells #[.string x, .int .i64 0, .bool false, .string n, .int .i64 l, .int .i64 c] 133)) (.cells #[.int .i64 0, .string ⟨#[]⟩, .int .i64 0, .int .i64 0] 41)
    simpa [zeroFault] using this
  have HNO : Hid (∀ k, w.heap.size ≤ k → ¬ (k = b ∨ InH H k)) := by
    rintro k hk (e | hm)
    · omega
    · have := h.inlt hm; omega
  have HW := (show Hid _ from hW.symm)
  clear hW h
  have i0 : W.cell? ⟨w.heap.size, 0, none⟩ = some (.string x) := by rw [cell_of hI]; rfl
  have i3 : W.cell? ⟨w.heap.size, 3, none⟩ = some (.string n) := by rw [cell_of hI]; rfl
  have i4 : W.cell? ⟨w.heap.size, 4, none⟩ = some (.int .i64 l) := by rw [cell_of hI]; rfl
  have i5 : W.cell? ⟨w.heap.size, 5, none⟩ = some (.int .i64 c) := by rw [cell_of hI]; rfl
  have HAF := (show Hid _ from fun (w2 : World) (H2 : Nat → Hd) (D2 : DbIs w2 b t (preOf v bg) [] d' H2) (T2 : Turned b W.drew H w2 H2) (a0 a1 a2 a3 : Value) =>
    flt_after D2 ((T2.first (Kept.refl [] W).drew).first hK) (F := w.heap.size + 1) (by omega) (by omega) (T2.fresh (w.heap.size + 1) (by exact lt_of_get hF) (fun hm => HNO.out (w.heap.size + 1) (by omega) (Or.inr hm))) a0 a1 a2 a3)
  have HCE := (show Hid _ from fun (w2 : World) (H2 : Nat → Hd) (T2 : Turned b W.drew H w2 H2) => (show _ ∧ _ from ⟨T2.1.get (by exact hI) (HNO.out _ (Nat.le_refl _)), T2.1.get (by exact hF) (HNO.out _ (by omega))⟩))
  have CE : ∀ (w2 : World) (H2 : Nat → Hd) (_ : Turned b W.drew H w2 H2), w2.cell? ⟨w.heap.size, 0, none⟩ = some (.string x) ∧ w2.cell? ⟨w.heap.size, 3, none⟩ = some (.string n) ∧ w2.cell? ⟨w.heap.size, 4, none⟩ = some (.int .i64 l) ∧ w2.cell? ⟨w.heap.size, 5, none⟩ = some (.int .i64 c) := by
    intro w2 H2 T2
    have hI2 := (HCE.out w2 H2 T2).1
    refine ⟨?_, ?_, ?_, ?_⟩ <;> (rw [cell_of hI2]; rfl)
  have HCC := (show Hid _ from CE)
  clear CE
  go_enter Tryz.func62, Tryz.ntmps62
  go_upto_region 1 with fail
  rw [HW.out]
  go_upto_region 3 with fail
  cases hr : (r == 0)
  · have hr' : (r != 0) = true := by simp [bne, hr]
    go_region_held3 (fun w' => w'.cell? ⟨w.heap.size, 0, none⟩ = some (.string x) ∧ w'.cell? ⟨w.heap.size, 3, none⟩ = some (.string n) ∧ w'.cell? ⟨w.heap.size, 4, none⟩ = some (.int .i64 l) ∧ w'.cell? ⟨w.heap.size, 5, none⟩ = some (.int .i64 c)) (go_keep) (first | (go_at_call 77; refine (HTK.out _ (by exact hD.still (Kept.refl [] _).drew)).mono ?_; rintro e w2 ⟨rfl, H2, D2, T2⟩; obtain ⟨r0, r3, r4, r5⟩ := HCC.out w2 H2 T2))
    all_goals
      have hF2 := (HCE.out w2 H2 T2).2
      have HA' := (show Hid _ from HAF.out w2 H2 D2 T2)
      obtain ⟨j0, j1, j2, j3⟩ := zero_cells hF2
      have y := free_of hF2
      go_wp2
      exact bodyPost_ret (v := .agg #[.int .i64 r, .string n, .int .i64 l, .int .i64 c]) (by simp [results, Tryz.results62, go_sem, j0, j1, j2, j3]) rfl
        ⟨rfl, H2, (HA'.out _ _ _ _).1, (HA'.out _ _ _ _).2⟩
  · have hr' : (r != 0) = false := by simp [bne, hr]
    go_region_held3 (fun w' => w'.cell? ⟨w.heap.size, 0, none⟩ = some (.string x) ∧ w'.cell? ⟨w.heap.size, 3, none⟩ = some (.string n) ∧ w'.cell? ⟨w.heap.size, 4, none⟩ = some (.int .i64 l) ∧ w'.cell? ⟨w.heap.size, 5, none⟩ = some (.int .i64 c)) (go_keep) (first | (go_at_call 77; refine (HTK.out _ (by exact hD.still (Kept.refl [] _).drew)).mono ?_; rintro e w2 ⟨rfl, H2, D2, T2⟩; obtain ⟨r0, r3, r4, r5⟩ := HCC.out w2 H2 T2))
    all_goals
      have hF2 := (HCE.out w2 H2 T2).2
      have HA' := (show Hid _ from HAF.out w2 H2 D2 T2)
      obtain ⟨j0, j1, j2, j3⟩ := zero_cells hF2
      have y := free_of hF2
      go_wp2
      exact bodyPost_ret (v := .agg #[.int .i64 0, .string ⟨#[]⟩, .int .i64 0, .int .i64 0]) (by simp [results, Tryz.results62, go_sem, j0, j1, j2, j3]) rfl
        ⟨rfl, H2, (HA'.out _ _ _ _).1, (HA'.out _ _ _ _).2⟩

end Go.Proofs.YtcipkfhpcbddiaaGreat

/- Package reader: include. -/
namespace Go.Proofs.YtcipkfhpcbddiaaGreat
open Go.RowKit
attribute [local go_sem] build_fault build_nofault

/-- What readFile must say of every file that an inclusion may name. -/
def FileSays (b v : Nat) (fs : List (ByteArray × ByteArray)) (f j : Nat) (bg : List Bool) (d : Db) (H : Nat → Hd) (w : World) : Prop :=
  Calls Tryz.prog 50 #[.pointer (some ⟨b, 0, none⟩), .int .i64 j] w fun e w' => e = .returned (fltV (fileR fs f j bg d).1) ∧ ∃ H', DbIs w' b 113 (preOf v (fileR fs f j bg d).2.1) [] (fileR fs f j bg d).2.2 H' ∧ Turned b w H w' H'

/-- The end of a call that answers a fault, the scanner having moved. -/
theorem flt_moved {w w2 : World} {b t sp F : Nat} {pre post : List Value} {d : Db} {H H2 : Nat → Hd} (D : DbIs w2 b t pre post d H2) (T : Moved b sp w H w2 H2) (h1 : w.heap.size ≤ F) (h2 : b ≠ F) (h3 : ¬ InH H2 F) (a0 a1 a2 a3 : Value) :
    DbIs ((((w2.setCell ⟨F, 0, none⟩ a0).setCell ⟨F, 1, none⟩ a1).setCell ⟨F, 2, none⟩ a2).setCell ⟨F, 3, none⟩ a3) b t pre post d H2 ∧
    Moved b sp w H ((((w2.setCell ⟨F, 0, none⟩ a0).setCell ⟨F, 1, none⟩ a1).setCell ⟨F, 2, none⟩ a2).setCell ⟨F, 3, none⟩ a3) H2 :=
  ⟨D.kept (four_in _ _ _ _) (by simpa using h2) (fun x hx => by simp; rintro rfl; exact h3 hx), T.beyond (four_in _ _ _ _) (by simpa using h1)⟩

theorem itemFlt_cells (n s : ByteArray) (t : ByteArray) (u : Int) (f : Bool) (p : Nat) : fltV (itemFlt n s ⟨t, u, f, p⟩) = .agg #[.int .i64 (if f = true then 7 else u), .string n, .int .i64 (lineAt s p), .int .i64 (colAt s p)] := rfl

/-- What stands on the way through an inclusion. -/
structure IncSt (w w' : World) (b v tt sp z : Nat) (fs : List (ByteArray × ByteArray)) (more : List Value) (bg : List Bool) (d : Db) (H : Nat → Hd) (n s : ByteArray) : Prop where
  D : DbIs w' b 113 (preOf v bg) [] d H
  TB : TabAt w' v tt fs more
  SC : ScanAt w' sp n s z
  F : w'.heap[w.heap.size + 1]? = some (.cells zeroFault 41 (0, 0))
  M : Moved b sp w H w' H
theorem IncSt.still {w w1 w2 : World} {b v tt sp z : Nat} {fs : List (ByteArray × ByteArray)} {more : List Value} {bg : List Bool} {d : Db} {H : Nat → Hd} {n s : ByteArray} (S : IncSt w w1 b v tt sp z fs more bg d H n s) (k : Kept [] w1 w2) : IncSt w w2 b v tt sp z fs more bg d H n s :=
  ⟨S.D.still k, S.TB.kept k (by simp), S.SC.kept k (by simp), k.get S.F (by simp), S.M.still k⟩
theorem IncSt.next {w w1 w2 : World} {b v tt sp z z' : Nat} {fs : List (ByteArray × ByteArray)} {more : List Value} {bg : List Bool} {d : Db} {H : Nat → Hd} {n s : ByteArray} (S : IncSt w w1 b v tt sp z fs more bg d H n s) (k : Kept [sp] w1 w2) (SC : ScanAt w2 sp n s z')
    (h1 : sp ≠ b) (h2 : v ≠ sp) (h3 : ¬ InH H sp) (h4 : sp < w.heap.size) : IncSt w w2 b v tt sp z' fs more bg d H n s :=
  ⟨S.D.kept k (by simpa using fun e => h1 e.symm) (by intro x hx; simp; rintro rfl; exact h3 hx), S.TB.kept k (by simpa using h2), SC, k.get S.F (by simp; omega), S.M.scan k⟩

set_option maxHeartbeats 4000000 in
set_option maxRecDepth 100000 in
theorem include_any (b v tt sp f x z : Nat) (fs : List (ByteArray × ByteArray)) (more : List Value) (bg : List Bool) (hbg : bg.length = 4) (d : Db) (H : Nat → Hd) (n s : ByteArray) (l c : Int) (w : World)
    (h : DbIs w b 113 (preOf v bg) [] d H) (hn : fileNm fs x = n) (hsd : fileDt fs x = s) (hs : s.size ≤ 1024) (hz : z ≤ s.size) (hsc : ScanAt w sp n s z) (ht : TabAt w v tt fs more)
    (hspb : sp ≠ b) (hvs : v ≠ sp) (hsi : ¬ InH H sp)
    (RF : Hid (∀ (j : Nat) (w' : World), j < fs.length → DbIs w' b 113 (preOf v bg) [] d H → TabAt w' v tt fs more → FileSays b v fs f j bg d H w')) :
    Calls Tryz.prog 76 #[.pointer (some ⟨b, 0, none⟩), .pointer (some ⟨sp, 0, none⟩), .agg #[.string n, .int .i64 l, .int .i64 c]] w fun e w' =>
      e = .returned (fltV (incR (fileR fs f) fs x z ⟨n, l, c⟩ bg d).1.1) ∧ ∃ H', DbIs w' b 113 (preOf v (incR (fileR fs f) fs x z ⟨n, l, c⟩ bg d).1.2.1) [] (incR (fileR fs f) fs x z ⟨n, l, c⟩ bg d).1.2.2 H' ∧ Moved b sp w H w' H' ∧
        (((incR (fileR fs f) fs x z ⟨n, l, c⟩ bg d).1.1.1 == 0) = true → ScanAt w' sp n s (incR (fileR fs f) fs x z ⟨n, l, c⟩ bg d).2) := by
  obtain ⟨W, hW⟩ : ∃ W, W = ((w.alloc (.cells #[.string n, .int .i64 l, .int .i64 c] 39)).alloc (.cells #[.int .i64 0, .string ⟨#[]⟩, .int .i64 0, .int .i64 0] 41)) := ⟨_, rfl⟩
  have hK : Kept [] w W := by rw [hW]; exact ((Kept.refl [] w).alloc _).alloc _
  have hbw := h.lt
  have hspw := lt_of_get hsc
  have hvw := ht.lt
  have D : DbIs W b 113 (preOf v bg) [] d H := h.still hK
  have SC : ScanAt W sp n s z := hsc.kept hK (by simp)
  have TB : TabAt W v tt fs more := ht.kept hK (by simp)
  have hP : W.heap[w.heap.size]? = some (.cells #[.string n, .int .i64 l, .int .i64 c] 39 (0, 0)) := by
    rw [hW]; exact ((Kept.refl [] _).alloc _).get (heap_alloc_new _ _) (by simp)
  have hF : W.heap[w.heap.size + 1]? = some (.cells zeroFault 41 (0, 0)) := by
    rw [hW]
    have := heap_alloc_new (w.alloc (.cells #[.string n, .int .i64 l, .int .i64 c] 39)) (.cells #[.int .i64 0, .string ⟨#[]⟩, .int .i64 0, .int .i64 0] 41)
    simpa [zeroFault] using this
  have HNI : Hid (∀ k, w.heap.size ≤ k → ¬ InH H k) := fun k hk hm => by have := h.inlt hm; omega
  have HW := (show Hid _ from hW.symm)
  have hW2 := lt_of_get hF
  have MK : Hid (Moved b sp w H W H) := (Moved.refl b sp w H).still hK
  clear hW h hsc ht
  have HI : Hid (incR (fileR fs f) fs x z ⟨n, l, c⟩ bg d = match incF fs x z ⟨n, l, c⟩ d with | .inl q => ((q, bg, d), z) | .inr (j, z') => (fileR fs f j bg d, z')) := rfl
  have HJ : Hid (incF fs x z ⟨n, l, c⟩ d = _) := (show incF fs x z ⟨n, l, c⟩ d = _ from by unfold incF; rw [hn, hsd])
  cases ho : openF d
  · have nl1 := nextF_le s z hz
    have tx1 := nextF_text s z hs
    have nl2 := nextF_le s (nextF s z).2 nl1.2.1
    have hfl := findF_le (nextF s z).1.text fs
    generalize hr1 : nextF s z = r1 at *
    obtain ⟨⟨t1, u1, f1, p1⟩, z1⟩ := r1
    simp only at nl1 tx1 nl2 hfl HJ
    have tx2 := nextF_text s z1 hs
    generalize hr2 : nextF s z1 = r2 at *
    obtain ⟨⟨t2, u2, f2, p2⟩, z2⟩ := r2
    simp only at nl2 tx2 HJ
    rw [ho] at HJ
    have S0 : IncSt w W b v tt sp z fs more bg d H n s := ⟨D, TB, SC, hF, MK.out⟩
    go_enter Tryz.func76, Tryz.ntmps76
    go_upto_region 1 with fail
    rw [HW.out]
    go_wp2_with fail
    refine (open_any b 113 5 (preOf v bg) [] d H _ D (preOf_len v bg hbg)).mono ?_
    rintro e w1 ⟨rfl, hw1⟩
    subst hw1
    rw [ho]
    go_wp2_with fail
    refine (next_any sp z n s _ hs hz SC).mono ?_
    rintro e w2 ⟨rfl, SC2, hk2⟩
    rw [hr1] at SC2 ⊢
    simp only [itemV] at SC2 ⊢
    have S2 := S0.next hk2 SC2 hspb hvs hsi hspw
    obtain ⟨W3, hW3⟩ : ∃ W3, W3 = w2.alloc (.cells #[.string t1, .int .i64 u1, .bool f1, .string n, .int .i64 (lineAt s p1), .int .i64 (colAt s p1)] 133) := ⟨_, rfl⟩
    have HW3 := (show Hid _ from hW3.symm)
    have S3 : IncSt w W3 b v tt sp z1 fs more bg d H n s := by rw [hW3]; exact S2.still ((Kept.refl [] _).alloc _)
    have I3 : ItemAt W3 w2.heap.size n s ⟨t1, u1, f1, p1⟩ := by rw [hW3]; exact heap_alloc_new _ _
    clear hW3 S0 S2 SC2 hk2 D TB SC hP hF hK HW hr1
    go_upto_region 4 with fail
    rw [HW3.out]
    clear HW3
    obtain ⟨a0, a1, a2, a3, a4, a5⟩ := I3.cells
    go_wp2_with fail
    refine (isWord_any t1 n u1 (lineAt s p1) (colAt s p1) f1 _).mono ?_
    rintro e w4 ⟨rfl, hk4⟩
    have S4 := S3.still hk4
    have I4 := I3.kept hk4 (by simp)
    clear a0 a1 a2 a3 a4 a5 S3 I3 hk4
    obtain ⟨a0, a1, a2, a3, a4, a5⟩ := I4.cells
    have hb2 := lt_of_get I4
    have hF4w := lt_of_get S4.F
    cases hw1 : (u1 == 0 && !f1)
    · have HT : Hid (incR (fileR fs f) fs x z ⟨n, l, c⟩ bg d = ((itemFlt n s ⟨t1, u1, f1, p1⟩, bg, d), z)) := by
        show _ = _; rw [HI.out, HJ.out]; simp [isWordF, hw1]
      clear HI HJ
      go_wp2_with fail
      refine (faultOf_any t1 n u1 (lineAt s p1) (colAt s p1) f1 _).mono ?_
      rintro e w5 ⟨rfl, hk5⟩
      obtain ⟨q, hq⟩ : ∃ q : Int, Hid ((if f1 = true then (7 : Int) else u1) = q) := ⟨_, rfl⟩
      rw [hq.out]
      have S5 := S4.still hk5
      obtain ⟨j0, j1, j2, j3⟩ := zero_cells S5.F
      have y := free_of S5.F
      have HA' := (show Hid _ from fun a0 a1 a2 a3 => flt_moved S5.D S5.M (F := w.heap.size + 1) (by omega) (by omega) (HNI.out _ (by omega)) a0 a1 a2 a3)
      clear a0 a1 a2 a3 a4 a5
      go_wp2
      exact bodyPost_ret (v := .agg #[.int .i64 q, .string n, .int .i64 (lineAt s p1), .int .i64 (colAt s p1)]) (by simp [results, Tryz.results76, go_sem, j0, j1, j2, j3]) rfl
        ⟨by rw [HT.out, itemFlt_cells, hq.out], H, by rw [HT.out]; exact (HA'.out _ _ _ _).1, (HA'.out _ _ _ _).2, by
          rw [HT.out]; intro hh
          exfalso
          simp only [itemFlt] at hh
          cases f1
          · simp at hw1 hh; exact hw1 hh
          · simp at hh⟩
    · have hu1 : u1 = 0 := by simp at hw1; exact hw1.1
      have hf1 : f1 = false := by simp at hw1; exact hw1.2
      subst hu1 hf1
      cases hd1 : dollarF t1
      · have b0 : w4.cell? ⟨b, 0, none⟩ = some (.pointer (some ⟨v, 0, none⟩)) := S4.D.preCell 0 (by simp [preOf])
        rcases hfl with hneg | ⟨j, hj, hjf⟩
        · have HT : Hid (incR (fileR fs f) fs x z ⟨n, l, c⟩ bg d = (((6, plAt n s p1), bg, d), z)) := by
            show _ = _; rw [HI.out, HJ.out]; simp [isWordF, hd1, hneg]
          clear HI HJ
          go_upto_region 8 with (go_at_call 96; refine (dollar_any t1 _ (by omega)).mono ?_; rintro e w5 ⟨rfl, rfl⟩)
          go_quiet ((go_at_call 34; exact Calls.quiet_of_same (find_any v tt fs more t1 _ (S4.still ((Kept.refl [] _).drewN _)).TB)))
          have S5 := S4.still ((Kept.refl [] _).drewN nq)
          rw [hneg]
          obtain ⟨j0, j1, j2, j3⟩ := zero_cells S4.F
          have y := free_of S4.F
          have HA' := (show Hid _ from fun a0 a1 a2 a3 => flt_moved S5.D S5.M (F := w.heap.size + 1) (by omega) (by omega) (HNI.out _ (by omega)) a0 a1 a2 a3)
          go_wp2
          exact bodyPost_ret (v := .agg #[.int .i64 6, .string n, .int .i64 (lineAt s p1), .int .i64 (colAt s p1)]) (by simp [results, Tryz.results76, go_sem, j0, j1, j2, j3]) rfl
            ⟨by rw [HT.out]; rfl, H, by rw [HT.out]; exact (HA'.out _ _ _ _).1, (HA'.out _ _ _ _).2, by rw [HT.out]; intro hh; cases hh⟩
        · go_upto_region 8 with (go_at_call 96; refine (dollar_any t1 _ (by omega)).mono ?_; rintro e w5 ⟨rfl, rfl⟩)
          go_quiet ((go_at_call 34; exact Calls.quiet_of_same (find_any v tt fs more t1 _ (S4.still ((Kept.refl [] _).drewN _)).TB)))
          rw [hjf]
          have S5 := S4.still ((Kept.refl [] _).drewN nq)
          go_wp2_with fail
          refine (next_any sp z1 n s _ hs nl1.2.1 S5.SC).mono ?_
          rintro e w6 ⟨rfl, SC6, hk6⟩
          rw [hr2] at SC6 ⊢
          simp only [itemV] at SC6 ⊢
          have S6 := S5.next hk6 SC6 hspb hvs hsi hspw
          obtain ⟨W7, hW7⟩ : ∃ W7, W7 = w6.alloc (.cells #[.string t2, .int .i64 u2, .bool f2, .string n, .int .i64 (lineAt s p2), .int .i64 (colAt s p2)] 133) := ⟨_, rfl⟩
          have HW7 := (show Hid _ from hW7.symm)
          have S7 : IncSt w W7 b v tt sp z2 fs more bg d H n s := by rw [hW7]; exact S6.still ((Kept.refl [] _).alloc _)
          have I7 : ItemAt W7 w6.heap.size n s ⟨t2, u2, f2, p2⟩ := by rw [hW7]; exact heap_alloc_new _ _
          clear hW7 S4 S5 S6 SC6 hk6 I4 a0 a1 a2 a3 a4 a5 b0
          go_upto_region 12 with fail
          rw [HW7.out]
          clear HW7
          obtain ⟨a0, a1, a2, a3, a4, a5⟩ := I7.cells
          go_wp2_with fail
          refine (isWord_any t2 n u2 (lineAt s p2) (colAt s p2) f2 _).mono ?_
          rintro e w8 ⟨rfl, hk8⟩
          have S8 := S7.still hk8
          have I8 := I7.kept hk8 (by simp)
          clear a0 a1 a2 a3 a4 a5 S7 I7 hk8
          obtain ⟨a0, a1, a2, a3, a4, a5⟩ := I8.cells
          have hb8 := lt_of_get I8
          have hF8w := lt_of_get S8.F
          have hjn : ¬ ((j : Int) < 0) := by omega
          cases hw2 : (u2 == 0 && !f2)
          · have HT : Hid (incR (fileR fs f) fs x z ⟨n, l, c⟩ bg d = ((itemFlt n s ⟨t2, u2, f2, p2⟩, bg, d), z)) := by
              show _ = _; rw [HI.out, HJ.out, hjf]; simp [isWordF, hd1, hw2, hjn]
            clear HI HJ
            go_wp2_with fail
            refine (faultOf_any t2 n u2 (lineAt s p2) (colAt s p2) f2 _).mono ?_
            rintro e w9 ⟨rfl, hk9⟩
            obtain ⟨q, hq⟩ : ∃ q : Int, Hid ((if f2 = true then (7 : Int) else u2) = q) := ⟨_, rfl⟩
            rw [hq.out]
            have S9 := S8.still hk9
            obtain ⟨j0, j1, j2, j3⟩ := zero_cells S9.F
            have y := free_of S9.F
            have HA' := (show Hid _ from fun a0 a1 a2 a3 => flt_moved S9.D S9.M (F := w.heap.size + 1) (by omega) (by omega) (HNI.out _ (by omega)) a0 a1 a2 a3)
            clear a0 a1 a2 a3 a4 a5
            go_wp2
            exact bodyPost_ret (v := .agg #[.int .i64 q, .string n, .int .i64 (lineAt s p2), .int .i64 (colAt s p2)]) (by simp [results, Tryz.results76, go_sem, j0, j1, j2, j3]) rfl
              ⟨by rw [HT.out, itemFlt_cells, hq.out], H, by rw [HT.out]; exact (HA'.out _ _ _ _).1, (HA'.out _ _ _ _).2, by
                rw [HT.out]; intro hh
                exfalso
                simp only [itemFlt] at hh
                cases f2
                · simp at hw2 hh; exact hw2 hh
                · simp at hh⟩
          · have hu2 : u2 = 0 := by simp at hw2; exact hw2.1
            have hf2 : f2 = false := by simp at hw2; exact hw2.2
            subst hu2 hf2
            cases he2 : (t2.toList == [36, 93])
            · have HT : Hid (incR (fileR fs f) fs x z ⟨n, l, c⟩ bg d = (((5, plAt n s p2), bg, d), z)) := by
                show _ = _; rw [HI.out, HJ.out, hjf]; simp [isWordF, hd1, he2, hjn]
              clear HI HJ
              obtain ⟨j0, j1, j2, j3⟩ := zero_cells S8.F
              have y := free_of S8.F
              have HA' := (show Hid _ from fun a0 a1 a2 a3 => flt_moved S8.D S8.M (F := w.heap.size + 1) (by omega) (by omega) (HNI.out _ (by omega)) a0 a1 a2 a3)
              go_wp2
              exact bodyPost_ret (v := .agg #[.int .i64 5, .string n, .int .i64 (lineAt s p2), .int .i64 (colAt s p2)]) (by simp [results, Tryz.results76, go_sem, j0, j1, j2, j3]) rfl
                ⟨by rw [HT.out]; rfl, H, by rw [HT.out]; exact (HA'.out _ _ _ _).1, (HA'.out _ _ _ _).2, by rw [HT.out]; intro hh; cases hh⟩
            · have HT : Hid (incR (fileR fs f) fs x z ⟨n, l, c⟩ bg d = (fileR fs f j bg d, z2)) := by
                show _ = _; rw [HI.out, HJ.out, hjf]; simp [isWordF, hd1, he2, hjn]
              clear HI HJ
              have RJ := RF.out j w8 hj S8.D S8.TB
              unfold FileSays at RJ
              have HRJ := (show Hid _ from RJ)
              clear RJ RF
              generalize fileR fs f j bg d = R at *
              obtain ⟨⟨r, pf, pl, pc⟩, bg', d'⟩ := R
              simp only [fltV] at HRJ
              go_wp2_with fail
              refine Calls.mono HRJ.out ?_
              rintro e w9 ⟨rfl, H9, D9, T9⟩
              have F9 := T9.1.get S8.F (by rintro (e | e); omega; exact HNI.out _ (by omega) e)
              have SC9 : ScanAt w9 sp n s z2 := T9.1.get S8.SC (by rintro (e | e); exact hspb e; exact hsi e)
              obtain ⟨j0, j1, j2, j3⟩ := zero_cells F9
              have y := free_of F9
              have HA' := (show Hid _ from fun a0 a1 a2 a3 => flt_moved D9 (S8.M.trans (T9.moved sp)) (F := w.heap.size + 1) (by omega) (by omega) (T9.fresh _ hF8w (HNI.out _ (by omega))) a0 a1 a2 a3)
              have HSC := (show Hid _ from fun a0 a1 a2 a3 => SC9.kept (four_in (r := w.heap.size + 1) a0 a1 a2 a3) (by simp; omega))
              clear a0 a1 a2 a3 a4 a5
              go_wp2
              exact bodyPost_ret (v := .agg #[.int .i64 r, .string pf, .int .i64 pl, .int .i64 pc]) (by simp [results, Tryz.results76, go_sem, j0, j1, j2, j3]) rfl
                ⟨by rw [HT.out]; rfl, H9, by rw [HT.out]; exact (HA'.out _ _ _ _).1, (HA'.out _ _ _ _).2, by rw [HT.out]; exact fun _ => HSC.out _ _ _ _⟩
      · have HT : Hid (incR (fileR fs f) fs x z ⟨n, l, c⟩ bg d = (((5, plAt n s p1), bg, d), z)) := by
          show _ = _; rw [HI.out, HJ.out]; simp [isWordF, hd1]
        clear HI HJ
        obtain ⟨j0, j1, j2, j3⟩ := zero_cells S4.F
        have y := free_of S4.F
        have HA' := (show Hid _ from fun a0 a1 a2 a3 => flt_moved S4.D S4.M (F := w.heap.size + 1) (by omega) (by omega) (HNI.out _ (by omega)) a0 a1 a2 a3)
        go_wp2_with (go_at_call 96; refine (dollar_any t1 _ (by omega)).mono ?_; rintro e w5 ⟨rfl, rfl⟩)
        exact bodyPost_ret (v := .agg #[.int .i64 5, .string n, .int .i64 (lineAt s p1), .int .i64 (colAt s p1)]) (by simp [results, Tryz.results76, go_sem, j0, j1, j2, j3]) rfl
          ⟨by rw [HT.out]; rfl, H, by rw [HT.out]; exact (HA'.out _ _ _ _).1, (HA'.out _ _ _ _).2, by rw [HT.out]; intro hh; cases hh⟩
  · have HT : Hid (incR (fileR fs f) fs x z ⟨n, l, c⟩ bg d = (((4, ⟨n, l, c⟩), bg, d), z)) := by
      show _ = _; rw [HI.out, HJ.out, ho]; simp
    clear HI HJ
    have i0 : W.cell? ⟨w.heap.size, 0, none⟩ = some (.string n) := by rw [cell_of hP]; rfl
    have i1 : W.cell? ⟨w.heap.size, 1, none⟩ = some (.int .i64 l) := by rw [cell_of hP]; rfl
    have i2 : W.cell? ⟨w.heap.size, 2, none⟩ = some (.int .i64 c) := by rw [cell_of hP]; rfl
    obtain ⟨j0, j1, j2, j3⟩ := zero_cells hF
    have y := free_of hF
    have HA' := (show Hid _ from fun a0 a1 a2 a3 => flt_moved D MK.out (F := w.heap.size + 1) (by omega) (by omega) (HNI.out _ (by omega)) a0 a1 a2 a3)
    go_enter Tryz.func76, Tryz.ntmps76
    go_upto_region 1 with fail
    rw [HW.out]
    go_wp2_with fail
    refine (open_any b 113 5 (preOf v bg) [] d H _ D (preOf_len v bg hbg)).mono ?_
    rintro e w1 ⟨rfl, hw1⟩
    subst hw1
    rw [ho]
    go_wp2
    exact bodyPost_ret (v := .agg #[.int .i64 4, .string n, .int .i64 l, .int .i64 c]) (by simp [results, Tryz.results76, go_sem, j0, j1, j2, j3]) rfl
      ⟨by rw [HT.out]; rfl, H, by rw [HT.out]; exact (HA'.out _ _ _ _).1, (HA'.out _ _ _ _).2, by rw [HT.out]; intro hh; cases hh⟩

end Go.Proofs.YtcipkfhpcbddiaaGreat

/- Package reader: readWord, readFile. -/
namespace Go.Proofs.YtcipkfhpcbddiaaGreat
open Go.RowKit
attribute [local go_sem] build_fault build_nofault

set_option maxHeartbeats 1600000 in
set_option maxRecDepth 100000 in
theorem readWord_any (b v tt sp f x z : Nat) (fs : List (ByteArray × ByteArray)) (more : List Value) (bg : List Bool) (hbg : bg.length = 4) (d : Db) (H : Nat → Hd) (n s t : ByteArray) (l c : Int) (w : World)
    (h : DbIs w b 113 (preOf v bg) [] d H) (hn : fileNm fs x = n) (hsd : fileDt fs x = s) (hs : s.size ≤ 1024) (hz : z ≤ s.size) (hsc : ScanAt w sp n s z) (ht : TabAt w v tt fs more)
    (hspb : sp ≠ b) (hvs : v ≠ sp) (hsi : ¬ InH H sp) (hsm : Small d 10000000) (htx : t.size ≤ 1073741824) (hin : Inner d 100000000)
    (RF : Hid (∀ (j : Nat) (w' : World), j < fs.length → DbIs w' b 113 (preOf v bg) [] d H → TabAt w' v tt fs more → FileSays b v fs f j bg d H w')) :
    Calls Tryz.prog 62 #[.pointer (some ⟨b, 0, none⟩), .pointer (some ⟨sp, 0, none⟩), .agg #[.string t, .int .i64 0, .bool false, .string n, .int .i64 l, .int .i64 c]] w fun e w' =>
      e = .returned (fltV (wordR (fileR fs f) fs x z t ⟨n, l, c⟩ bg d).1.1) ∧ ∃ H', DbIs w' b 113 (preOf v (wordR (fileR fs f) fs x z t ⟨n, l, c⟩ bg d).1.2.1) [] (wordR (fileR fs f) fs x z t ⟨n, l, c⟩ bg d).1.2.2 H' ∧ Moved b sp w H w' H' ∧
        (((wordR (fileR fs f) fs x z t ⟨n, l, c⟩ bg d).1.1.1 == 0) = true → ScanAt w' sp n s (wordR (fileR fs f) fs x z t ⟨n, l, c⟩ bg d).2) := by
  cases hi : (t.toList == [36, 91])
  · have HT : wordR (fileR fs f) fs x z t ⟨n, l, c⟩ bg d = ((if ((takeF d t ⟨n, l, c⟩).1 == 0) = true then noFlt else ((takeF d t ⟨n, l, c⟩).1, ⟨n, l, c⟩), bg, (takeF d t ⟨n, l, c⟩).2), z) := by
      unfold wordR; rw [hi]; simp
    rw [HT]
    refine (readWordTake_any b 113 v bg hbg d H _ t n l c w h hsm htx hin hi).mono ?_
    rintro e w' ⟨rfl, H', D', T'⟩
    exact ⟨rfl, H', D', T'.moved sp, fun _ => T'.1.get hsc (by rintro (e | e); exact hspb e; exact hsi e)⟩
  · have HT : wordR (fileR fs f) fs x z t ⟨n, l, c⟩ bg d = incR (fileR fs f) fs x z ⟨n, l, c⟩ bg d := by
      unfold wordR; rw [hi]; simp
    rw [HT]
    obtain ⟨W, hW⟩ : ∃ W, W = ((w.alloc (.cells #[.string t, .int .i64 0, .bool false, .string n, .int .i64 l, .int .i64 c] 133)).alloc (.cells #[.int .i64 0, .string ⟨#[]⟩, .int .i64 0, .int .i64 0] 41)) := ⟨_, rfl⟩
    have hK : Kept [] w W := by rw [hW]; exact ((Kept.refl [] w).alloc _).alloc _
    have hbw := h.lt
    have hspw := lt_of_get hsc
    have hI : W.heap[w.heap.size]? = some (.cells #[.string t, .int .i64 0, .bool false, .string n, .int .i64 l, .int .i64 c] 133 (0, 0)) := by
      rw [hW]; exact ((Kept.refl [] _).alloc _).get (heap_alloc_new _ _) (by simp)
    have hF : W.heap[w.heap.size + 1]? = some (.cells zeroFault 41 (0, 0)) := by
      rw [hW]
      have := heap_alloc_new (w.alloc (.cells #[.string t, .int .i64 0, .bool false, .string n, .int .i64 l, .int .i64 c] 133)) (.cells #[.int .i64 0, .string ⟨#[]⟩, .int .i64 0, .int .i64 0] 41)
      simpa [zeroFault] using this
    have i0 : W.cell? ⟨w.heap.size, 0, none⟩ = some (.string t) := by rw [cell_of hI]; rfl
    have i3 : W.cell? ⟨w.heap.size, 3, none⟩ = some (.string n) := by rw [cell_of hI]; rfl
    have i4 : W.cell? ⟨w.heap.size, 4, none⟩ = some (.int .i64 l) := by rw [cell_of hI]; rfl
    have i5 : W.cell? ⟨w.heap.size, 5, none⟩ = some (.int .i64 c) := by rw [cell_of hI]; rfl
    have IC := include_any b v tt sp f x z fs more bg hbg d H n s l c W (h.still hK) hn hsd hs hz (hsc.kept hK (by simp)) (ht.kept hK (by simp)) hspb hvs hsi RF
    have HIC := (show Hid _ from IC)
    have HNI : Hid (∀ k, w.heap.size ≤ k → ¬ InH H k) := fun k hk hm => by have := h.inlt hm; omega
    have HW := (show Hid _ from hW.symm)
    have hFw := lt_of_get hF
    clear hW IC RF HT h
    generalize incR (fileR fs f) fs x z ⟨n, l, c⟩ bg d = R at *
    obtain ⟨⟨⟨r, pf, pl, pc⟩, bg', d'⟩, z'⟩ := R
    simp only [fltV] at HIC ⊢
    go_enter Tryz.func62, Tryz.ntmps62
    go_upto_region 1 with fail
    rw [HW.out]
    go_wp2_with fail
    refine Calls.mono HIC.out ?_
    rintro e w2 ⟨rfl, H2, D2, M2, hs2⟩
    have hF2 := M2.1.get hF (by rintro (e | e | e); omega; omega; exact HNI.out _ (by omega) e)
    obtain ⟨j0, j1, j2, j3⟩ := zero_cells hF2
    have y := free_of hF2
    have HA' := (show Hid _ from fun a0 a1 a2 a3 => flt_moved D2 (M2.first hK) (F := w.heap.size + 1) (by omega) (by omega) (M2.fresh _ hFw (HNI.out _ (by omega))) a0 a1 a2 a3)
    have HSC := (show Hid _ from fun a0 a1 a2 a3 hh => (hs2 hh).kept (four_in (r := w.heap.size + 1) a0 a1 a2 a3) (by simp; omega))
    clear hs2 i0 i3 i4 i5
    go_wp2
    exact bodyPost_ret (v := .agg #[.int .i64 r, .string pf, .int .i64 pl, .int .i64 pc]) (by simp [results, Tryz.results62, go_sem, j0, j1, j2, j3]) rfl
      ⟨rfl, H2, (HA'.out _ _ _ _).1, (HA'.out _ _ _ _).2, fun hh => HSC.out _ _ _ _ hh⟩

end Go.Proofs.YtcipkfhpcbddiaaGreat

/- Package reader: readFile. -/
namespace Go.Proofs.YtcipkfhpcbddiaaGreat
open Go.RowKit
attribute [local go_sem] build_fault build_nofault

theorem build_scan (w : World) (n d : ByteArray) (l c : Int) : (Instr.build 152 #[(0, .agg #[.string n, .string d]), (2, .int .i64 l), (3, .int .i64 c)]).run Tryz.prog w = .ok (.agg #[.string n, .string d, .int .i64 0, .int .i64 l, .int .i64 c]) w :=
  run_build w 152 _ _ (by kernel_rfl)
attribute [local go_sem] build_scan

set_option maxHeartbeats 400000 in
theorem newScan_any (n d : ByteArray) (w : World) :
    Calls Tryz.prog 58 #[.agg #[.string n, .string d]] w fun e w' => ∃ s, e = .returned (.pointer (some ⟨s, 0, none⟩)) ∧ w.heap.size ≤ s ∧ ScanAt w' s n d 0 ∧ Kept [] w w' := by
  go_enter Tryz.func58, Tryz.ntmps58
  go_wp2
  go_ret
  refine ⟨w.heap.size + 1, rfl, by omega, ?_, ((Kept.refl _ _).alloc _).alloc _⟩
  have := heap_alloc_new (w.alloc (.cells #[.string n, .string d] 76)) (.cells #[.string n, .string d, .int .i64 0, .int .i64 1, .int .i64 1] 152)
  simpa [ScanAt, scanCells, lineAt, colAt] using this

theorem Turned.beyond {b : Nat} {w wr w' : World} {H H1 : Nat → Hd} {S : List Nat} (T : Turned b w H wr H1) (k : Kept S wr w') (hS : ∀ x, x ∈ S → w.heap.size ≤ x) : Turned b w H w' H1 :=
  ⟨⟨k.os.trans T.1.os, k.tape.trans T.1.tape, k.output.trans T.1.output, Nat.le_trans T.1.size k.size, fun i hi hn => by
    rw [← T.1.block i hi hn]
    exact k.block i (Nat.lt_of_lt_of_le hi T.1.size) (fun hm => by have := hS i hm; omega)⟩, T.2⟩
/-- Behind a word: the scanner is new, so its moves do not count. -/
theorem Turned.word {b sp : Nat} {w wr w' : World} {H H1 H2 : Nat → Hd} (T : Turned b w H wr H1) (M : Moved b sp wr H1 w' H2) (hsp : w.heap.size ≤ sp) : Turned b w H w' H2 := by
  refine ⟨⟨M.1.os.trans T.1.os, M.1.tape.trans T.1.tape, M.1.output.trans T.1.output, Nat.le_trans T.1.size M.1.size, ?_⟩, ?_⟩
  · intro k hk hn
    rw [← T.1.block k hk hn]
    refine M.1.block k (Nat.lt_of_lt_of_le hk T.1.size) ?_
    rintro (e | e | hm)
    · exact hn (Or.inl e)
    · omega
    · rcases T.2 k hm with h | h
      · exact hn (Or.inr h)
      · omega
  · intro k hk
    rcases M.2 k hk with h | h
    · exact T.2 k h
    · exact Or.inr (Nat.le_trans T.1.size h)

theorem preOf_set (v : Nat) (bg : List Bool) (j : Nat) : (preOf v bg).set (1 + j) (.bool true) = preOf v (bg.set j true) := by
  unfold preOf
  rw [Nat.add_comm 1 j, List.set_cons_succ, List.map_set]
theorem preOf_at (v : Nat) (bg : List Bool) (j : Nat) (h : bg.length = 4) (hj : j < 4) : (preOf v bg)[1 + j]? = some (.bool (bg.getD j true)) := by
  unfold preOf
  rw [Nat.add_comm 1 j, List.getElem?_cons_succ, List.getElem?_map, List.getD_eq_getElem?_getD]
  rw [List.getElem?_eq_getElem (by omega)]; rfl

set_option maxHeartbeats 1000000 in
set_option maxRecDepth 100000 in
theorem readFile_begun (b v f j : Nat) (fs : List (ByteArray × ByteArray)) (bg : List Bool) (hbg : bg.length = 4) (d : Db) (H : Nat → Hd) (w : World) (hj : j < 4)
    (h : DbIs w b 113 (preOf v bg) [] d H) (hb : bg.getD j true = true) : FileSays b v fs f j bg d H w := by
  unfold FileSays fileR
  rw [if_pos hb]
  have hbw := h.lt
  have c1 := h.preCell (1 + j) (by rw [preOf_len v bg hbg]; omega)
  rw [preOf_at v bg j hbg hj, hb] at c1
  have HN : Hid (¬ InH H w.heap.size) := fun hm => by have := h.inlt hm; omega
  go_enter Tryz.func50, Tryz.ntmps50
  go_wp2
  exact bodyPost_ret (v := .agg #[.int .i64 0, .string ⟨#[]⟩, .int .i64 0, .int .i64 0]) (by simp [results, Tryz.results50, go_sem]) rfl
    ⟨rfl, H, h.still ((Kept.refl [] _).alloc _), (Turned.refl _ _ _).still ((Kept.refl [] _).alloc _)⟩

end Go.Proofs.YtcipkfhpcbddiaaGreat
