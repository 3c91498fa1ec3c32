/- Package metaproofkeep: holds, lines, pick, small, rows that are nil. -/
import Derived.Test.YtkblmflajfomaaaRead3
namespace Go.Proofs.Ytkblmflajfomaaa
open Go.RowKit

/-- Is the word that begins an inclusion somewhere in s? -/
def incAt (s : ByteArray) (i : Nat) : Bool := (s.extract i (i + 2)).toList == [36, 91]
def holdsF (s : ByteArray) : Bool := (List.range s.size).any (fun i => decide (i + 2 ≤ s.size) && incAt s i)

set_option maxHeartbeats 400000 in
theorem holds_any (s : ByteArray) (w : World) (hs : s.size ≤ 4294967296) :
    Calls Try.prog 16 #[.string s, .string ⟨#[36, 91]⟩] w fun e w' => e = .returned (.bool (holdsF s)) ∧ w' = w := by
  go_enter Try.func16, Try.ntmps16
  go_wp2
  go_loopg [5] s.size (fun g i wr => ∃ k : Nat, k ≤ s.size ∧ g = s.size - k ∧ i = .int .i64 k ∧ Hid (∀ i, i < k → i + 2 ≤ s.size → incAt s i = false) ∧ wr = w)
  case atStart => exact ⟨0, by omega, by omega, rfl, fun i h => by omega, rfl⟩
  case round =>
    obtain ⟨k, hk, hg, rfl, hall, rfl⟩ := hrel
    by_cases hlt : k + 2 ≤ s.size
    · cases hb : ((s.extract k (k + 2)).toList == [36, 91])
      · go_wp2
        go_roundg (s.size - (k + 1))
        case measure => omega
        case rel =>
          refine ⟨k + 1, by omega, rfl, by go_num, ?_, rfl⟩
          intro i hi h2
          by_cases e : i = k
          · subst e; exact hb
          · exact hall.out i (by omega) h2
      · have HY : Hid (holdsF s = true) := any_yes k (by omega) (by simp [hlt, incAt, hb])
        go_wp2
        go_ret
        exact ⟨ret_bool HY.out.symm, rfl⟩
    · have HY : Hid (holdsF s = false) := any_no (fun i hi => by
        by_cases h2 : i + 2 ≤ s.size
        · simp [hall.out i (by omega) h2]
        · simp [h2])
      go_wp2
      go_ret
      exact ⟨ret_bool HY.out.symm, rfl⟩

set_option maxHeartbeats 400000 in
theorem lines_any (s : ByteArray) (w : World) (hs : s.size ≤ 1073741824) :
    Calls Try.prog 24 #[.string s] w fun e w' => e = .returned (.int .i64 (lineAt s s.size - 1)) ∧ w' = w := by
  go_enter Try.func24, Try.ntmps24
  go_wp2
  go_loopg [3, 4] s.size (fun g m i wr => ∃ (k : Nat) (l : Int), k ≤ s.size ∧ g = s.size - k ∧ i = .int .i64 k ∧ m = .int .i64 l ∧ Hid (l = lineAt s k - 1) ∧ 0 ≤ l ∧ l ≤ k ∧ wr = w)
  case atStart => exact ⟨0, 0, by omega, by omega, rfl, rfl, rfl, by omega, by omega, rfl⟩
  case round =>
    obtain ⟨k, l, hk, hg, rfl, rfl, hl, hl0, hlk, rfl⟩ := hrel
    by_cases hlt : k < s.size
    · cases hb : ((s[k].toNat : Int) == 10)
      · have HL : Hid (l = lineAt s (k + 1) - 1) := by show l = _; rw [lineAt, byteAt_of s k hlt, hb, hl.out]; simp
        clear hl
        go_wp2
        go_roundg (s.size - (k + 1))
        case measure => omega
        case rel => exact ⟨k + 1, l, by omega, rfl, by go_num, rfl, HL, hl0, by omega, rfl⟩
      · have HL : Hid (l + 1 = lineAt s (k + 1) - 1) := by show l + 1 = _; rw [lineAt, byteAt_of s k hlt, hb, hl.out]; simp
        clear hl
        go_wp2
        go_roundg (s.size - (k + 1))
        case measure => omega
        case rel => exact ⟨k + 1, l + 1, by omega, rfl, by go_num, rfl, HL, by omega, by omega, rfl⟩
    · have HL : Hid (l = lineAt s s.size - 1) := by show l = _; rw [hl.out, show k = s.size by omega]
      clear hl
      go_wp2
      go_ret
      exact ⟨ret_int HL.out, rfl⟩

theorem sameRows_any (by_ : Int) (w : World) :
    Calls Try.prog 26 #[.slice none 0 0, .slice none 0 0, .int .i64 by_] w fun e w' => e = .returned (.bool true) ∧ w' = w := by
  go_enter Try.func26, Try.ntmps26
  go_wp2
  refine wp_loop_rounds 1 ?_
  rw [rounds_succ]
  go_wp2
  go_ret
  exact ⟨rfl, rfl⟩

theorem begins_any (w : World) :
    Calls Try.prog 23 #[.slice none 0 0, .slice none 0 0] w fun e w' => e = .returned (.bool true) ∧ w' = w := by
  go_enter Try.func23, Try.ntmps23
  go_wp2_with fail
  refine (sameRows_any _ _).mono ?_
  rintro e w1 ⟨rfl, rfl⟩
  go_wp2
  go_ret
  exact ⟨rfl, rfl⟩

/-- Which of n (the raw number c: any). -/
theorem pick_any (c : Int) (n : Nat) (w : World) (hc : -9223372036854775808 ≤ c ∧ c ≤ 9223372036854775807) (hn : 1 ≤ n ∧ n ≤ 1073741824) :
    Calls Try.prog 19 #[.int .i64 c, .int .i64 n] w fun e w' => (∃ p : Nat, e = .returned (.int .i64 p) ∧ p < n) ∧ w' = w := by
  have hn1 : (1 : Int) ≤ (n : Int) := by omega
  have hn2 : (n : Int) ≤ 1073741824 := by omega
  have hnz : ((n : Int) == 0) = false := beq_eq_false_iff_ne.2 (by omega)
  by_cases h0 : c < 0
  · have h1 : 0 ≤ (-(c + 1)).tmod n ∧ (-(c + 1)).tmod n < n := ⟨Int.tmod_nonneg _ (by omega), Int.tmod_lt_of_pos _ (by omega)⟩
    have H1 := (show Hid _ from h1)
    clear h1
    go_enter Try.func19, Try.ntmps19
    go_wp2
    all_goals go_ret
    all_goals
      have h1 := H1.out
      refine ⟨⟨((-(c + 1)).tmod n).toNat, ret_int ?_, by omega⟩, rfl⟩
      first | (simp only [Int.neg_tmod] at *; omega) | (rw [Int.toNat_of_nonneg h1.1])
  · have h1 : 0 ≤ c.tmod n ∧ c.tmod n < n := ⟨Int.tmod_nonneg _ (by omega), Int.tmod_lt_of_pos _ (by omega)⟩
    have h2 : c.tmod n = c % n := Int.tmod_eq_emod_of_nonneg (by omega)
    have H1 := (show Hid _ from h1)
    have H2 := (show Hid _ from h2)
    clear h1 h2
    go_enter Try.func19, Try.ntmps19
    go_wp2
    all_goals go_ret
    all_goals
      have h1 := H1.out
      have h2 := H2.out
      refine ⟨⟨(c.tmod n).toNat, ret_int ?_, by omega⟩, rfl⟩
      first | (rw [Int.toNat_of_nonneg h1.1]; done) | (rw [Int.toNat_of_nonneg h1.1, h2])

/-- The caller's own chunks: at address a, in a world. -/
def ChunksAt (w : World) (b off : Nat) (l : List ByteArray) : Prop := b < w.heap.size ∧ ∀ i (h : i < l.length), w.cell? ⟨b, off + i, none⟩ = some (.string l[i])
theorem ChunksAt.kept {w w' : World} {b off : Nat} {l : List ByteArray} {S : List Nat} (h : ChunksAt w b off l) (hk : Kept S w w') (hb : b ∉ S) : ChunksAt w' b off l :=
  ⟨Nat.lt_of_lt_of_le h.1 hk.size, fun i hi => (World.cell?_of_block (hk.block b h.1 hb)).trans (h.2 i hi)⟩

def sumTo (l : List ByteArray) : Nat → Int
  | 0 => l.length
  | k + 1 => sumTo l k + (l.getD k ⟨#[]⟩).size
theorem sumTo_ge (l : List ByteArray) (k : Nat) : (l.length : Int) ≤ sumTo l k ∧ ∀ i, i < k → ((l.getD i ⟨#[]⟩).size : Int) ≤ sumTo l k := by
  induction k with
  | zero => simp [sumTo]
  | succ k ih =>
    rw [sumTo]
    refine ⟨by omega, fun i hi => ?_⟩
    by_cases e : i = k
    · subst e; omega
    · have := ih.2 i (by omega); omega

set_option maxHeartbeats 800000 in
theorem small_any (b off cap : Nat) (l : List ByteArray) (w : World) (hl : l.length ≤ 140737488351232) (hls : ∀ x, x ∈ l → x.size ≤ 140737488351232) (hc : ChunksAt w b off l) :
    Calls Try.prog 6 #[.slice (some ⟨b, off, none⟩) l.length cap] w fun e w' => (∃ r, e = .returned (.bool r) ∧ (r = true → l.length ≤ 1073741824 ∧ ∀ i, i < l.length → (l.getD i ⟨#[]⟩).size ≤ 1073741824)) ∧ w' = w := by
  by_cases h0 : 1073741824 < l.length
  · go_enter Try.func6, Try.ntmps6
    go_wp2
    go_ret
    exact ⟨⟨false, rfl, by simp⟩, rfl⟩
  · go_enter Try.func6, Try.ntmps6
    go_wp2
    go_loopg [3, 4] l.length (fun g m i wr => ∃ (k : Nat) (z : Int), k ≤ l.length ∧ g = l.length - k ∧ i = .int .i64 k ∧ m = .int .i64 z ∧ Hid (z = sumTo l k) ∧ 0 ≤ z ∧ z ≤ 1073741824 ∧ wr = w)
    case atStart => exact ⟨0, l.length, by omega, by omega, rfl, rfl, rfl, by omega, by omega, rfl⟩
    case round =>
      obtain ⟨k, z, hk, hg, rfl, rfl, hz, hz0, hz1, rfl⟩ := hrel
      by_cases hlt : k < l.length
      · have c1 := hc.2 k hlt
        have e0 : l.getD k ⟨#[]⟩ = l[k] := by rw [List.getD_eq_getElem?_getD, List.getElem?_eq_getElem hlt]; rfl
        have hx := hls l[k] (List.getElem_mem hlt)
        have HZ : Hid (sumTo l (k + 1) = z + (l[k]).size) := by show sumTo l (k + 1) = _; rw [sumTo, e0, hz.out]
        clear hz e0
        by_cases hb : (1073741824 : Int) < z + (l[k]).size
        · go_wp2
          go_ret
          exact ⟨⟨false, rfl, by simp⟩, rfl⟩
        · go_wp2
          go_roundg (l.length - (k + 1))
          case measure => omega
          case rel => exact ⟨k + 1, z + (l[k]).size, by omega, rfl, by go_num, rfl, HZ.out.symm, by omega, by omega, rfl⟩
      · have HZ : Hid (z = sumTo l l.length) := by show z = _; rw [hz.out, show k = l.length by omega]
        clear hz
        go_wp2
        go_ret
        refine ⟨⟨true, rfl, fun _ => ⟨by omega, fun i hi => ?_⟩⟩, rfl⟩
        have := (sumTo_ge l l.length).2 i hi
        rw [← HZ.out] at this
        omega

end Go.Proofs.Ytkblmflajfomaaa
