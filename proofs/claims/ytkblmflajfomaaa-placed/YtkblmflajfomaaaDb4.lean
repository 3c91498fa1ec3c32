/- Package statements: the small looks. -/
import Derived.Test.YtkblmflajfomaaaDb3
namespace Go.Proofs.Ytkblmflajfomaaa
open Go.RowKit

def labelB (n : Int) : Bool := (decide (97 ≤ n) && decide (n ≤ 122)) || (decide (65 ≤ n) && decide (n ≤ 90)) || (decide (48 ≤ n) && decide (n ≤ 57)) || n == 45 || n == 95 || n == 46
def isLabelF (s : ByteArray) : Bool := (List.range s.size).all (fun i => labelB (byteAt s i))

set_option maxHeartbeats 1000000 in
theorem isLabelByte_any (n : Int) (w : World) :
    Calls Try.prog 76 #[.int .u8 n] w fun e w' => e = .returned (.bool (labelB n)) ∧ w' = w := by
  by_cases h1 : (97 ≤ n ∧ n ≤ 122) ∨ (65 ≤ n ∧ n ≤ 90) ∨ (48 ≤ n ∧ n ≤ 57)
  · have HL : Hid (labelB n = true) := by show labelB n = true; simp only [labelB, Bool.or_eq_true, Bool.and_eq_true, decide_eq_true_eq]; omega
    rcases h1 with h1 | h1 | h1
    all_goals
      go_enter Try.func76, Try.ntmps76
      go_wp2
      go_ret
      exact ⟨ret_bool HL.out.symm, rfl⟩
  · have HL : Hid (labelB n = (n == 45 || n == 95 || n == 46)) := by
      show labelB n = _
      have e1 : (decide (97 ≤ n) && decide (n ≤ 122)) = false := by simp; omega
      have e2 : (decide (65 ≤ n) && decide (n ≤ 90)) = false := by simp; omega
      have e3 : (decide (48 ≤ n) && decide (n ≤ 57)) = false := by simp; omega
      simp only [labelB, e1, e2, e3, Bool.false_or]
    go_enter Try.func76, Try.ntmps76
    go_wp2
    all_goals go_ret
    all_goals (refine ⟨ret_bool ?_, rfl⟩; first | rfl | (rw [HL.out]; done) | (rw [HL.out]; simp [*]; done))

theorem all_no {n : Nat} {p : Nat → Bool} (i : Nat) (h : i < n) (hp : p i = false) : (List.range n).all p = false := by
  rw [List.all_eq_false]; exact ⟨i, by simpa using h, by simp [hp]⟩
theorem all_yes {n : Nat} {p : Nat → Bool} (h : ∀ i, i < n → p i = true) : (List.range n).all p = true := by
  rw [List.all_eq_true]; intro i hi; exact h i (by simpa using hi)

set_option maxHeartbeats 400000 in
theorem isLabel_any (s : ByteArray) (w : World) (hs : s.size ≤ 1073741824) :
    Calls Try.prog 68 #[.string s] w fun e w' => e = .returned (.bool (isLabelF s)) ∧ w' = w := by
  go_enter Try.func68, Try.ntmps68
  go_wp2
  go_loopg [3] s.size (fun g i wr => ∃ k : Nat, k ≤ s.size ∧ g = s.size - k ∧ i = .int .i64 k ∧ Hid (∀ i, i < k → labelB (byteAt s i) = true) ∧ wr = w)
  case atStart => exact ⟨0, by omega, by omega, rfl, fun i h => by omega, rfl⟩
  case round =>
    obtain ⟨k, hk, hg, rfl, hall, rfl⟩ := hrel
    by_cases hlt : k < s.size
    · cases hb : labelB (s[k].toNat : Int)
      · have HY : Hid (isLabelF s = false) := all_no k hlt (by rw [byteAt_of s k hlt]; exact hb)
        go_wp2_with fail
        refine (isLabelByte_any _ _).mono ?_
        rintro e w1 ⟨rfl, rfl⟩
        go_wp2
        go_ret
        exact ⟨ret_bool HY.out.symm, rfl⟩
      · go_wp2_with fail
        refine (isLabelByte_any _ _).mono ?_
        rintro e w1 ⟨rfl, rfl⟩
        go_wp2
        go_roundg (s.size - (k + 1))
        case measure => omega
        case rel =>
          refine ⟨k + 1, by omega, rfl, by go_num, ?_, rfl⟩
          intro i hi
          by_cases e : i = k
          · subst e; rw [byteAt_of s i hlt]; exact hb
          · exact hall.out i (by omega)
    · have HY : Hid (isLabelF s = true) := all_yes (fun i hi => hall.out i (by omega))
      go_wp2
      go_ret
      exact ⟨ret_bool HY.out.symm, rfl⟩

theorem isActive_any (b t o : Nat) (pre post : List Value) (d : Db) (H : Nat → Hd) (x : ByteArray) (w : World) (h : DbIs w b t pre post d H) (ho : pre.length = o) (hl : d.active.length ≤ 1073741824) :
    Calls Try.prog 73 #[.pointer (some ⟨b, o, none⟩), .string x] w fun e w' => e = .returned (.bool (hasF d.active x)) ∧ w' = w := by
  obtain ⟨q0, q1, q2, q3, q4, q5, q6, q7, q8⟩ := h.cells o ho
  go_enter Try.func73, Try.ntmps73
  go_wp2_with fail
  refine (has_any (H 3) d.active x _ (by exact h.own 3 (by omega)) hl).mono ?_
  rintro e w1 ⟨rfl, rfl⟩
  go_wp2
  go_ret
  exact ⟨rfl, rfl⟩

theorem isConstant_any (b t o : Nat) (pre post : List Value) (d : Db) (H : Nat → Hd) (x : ByteArray) (w : World) (h : DbIs w b t pre post d H) (ho : pre.length = o) (hl : d.constants.length ≤ 1073741824) :
    Calls Try.prog 74 #[.pointer (some ⟨b, o, none⟩), .string x] w fun e w' => e = .returned (.bool (hasF d.constants x)) ∧ w' = w := by
  obtain ⟨q0, q1, q2, q3, q4, q5, q6, q7, q8⟩ := h.cells o ho
  go_enter Try.func74, Try.ntmps74
  go_wp2_with fail
  refine (has_any (H 1) d.constants x _ (by exact h.own 1 (by omega)) hl).mono ?_
  rintro e w1 ⟨rfl, rfl⟩
  go_wp2
  go_ret
  exact ⟨rfl, rfl⟩

theorem isTyped_any (b t o : Nat) (pre post : List Value) (d : Db) (H : Nat → Hd) (x : ByteArray) (w : World) (h : DbIs w b t pre post d H) (ho : pre.length = o) (hl : d.typed.length ≤ 1073741824) :
    Calls Try.prog 75 #[.pointer (some ⟨b, o, none⟩), .string x] w fun e w' => e = .returned (.bool (hasF d.typed x)) ∧ w' = w := by
  obtain ⟨q0, q1, q2, q3, q4, q5, q6, q7, q8⟩ := h.cells o ho
  go_enter Try.func75, Try.ntmps75
  go_wp2_with fail
  refine (has_any (H 4) d.typed x _ (by exact h.own 4 (by omega)) hl).mono ?_
  rintro e w1 ⟨rfl, rfl⟩
  go_wp2
  go_ret
  exact ⟨rfl, rfl⟩

def isTakenF (d : Db) (x : ByteArray) : Bool := hasF d.labels x || hasF d.constants x || hasF d.variables x
def isTakenVF (d : Db) (x : ByteArray) : Bool := hasF d.labels x || hasF d.constants x || hasF d.active x

/-- How long the lists are. -/
structure Small (d : Db) (N : Nat) : Prop where
  labels : d.labels.length ≤ N
  constants : d.constants.length ≤ N
  variables : d.variables.length ≤ N
  active : d.active.length ≤ N
  typed : d.typed.length ≤ N
  blocks : d.blocks.length ≤ N
  symbols : d.symbols.length ≤ N

set_option maxHeartbeats 400000 in
theorem isTaken_any (b t o : Nat) (pre post : List Value) (d : Db) (H : Nat → Hd) (x : ByteArray) (w : World) (h : DbIs w b t pre post d H) (ho : pre.length = o) (hs : Small d 1073741824) :
    Calls Try.prog 61 #[.pointer (some ⟨b, o, none⟩), .string x] w fun e w' => e = .returned (.bool (isTakenF d x)) ∧ w' = w := by
  obtain ⟨q0, q1, q2, q3, q4, q5, q6, q7, q8⟩ := h.cells o ho
  cases h1 : hasF d.labels x
  · cases h2 : hasF d.constants x
    · have HT : Hid (isTakenF d x = hasF d.variables x) := by show isTakenF d x = _; simp [isTakenF, h1, h2]
      go_enter Try.func61, Try.ntmps61
      go_wp2_with fail
      refine (has_any (H 0) d.labels x _ (by exact h.own 0 (by omega)) hs.labels).mono ?_
      rintro e w1 ⟨rfl, rfl⟩
      go_wp2_with fail
      refine (has_any (H 1) d.constants x _ (by exact h.own 1 (by omega)) hs.constants).mono ?_
      rintro e w1 ⟨rfl, rfl⟩
      go_wp2_with fail
      refine (has_any (H 2) d.variables x _ (by exact h.own 2 (by omega)) hs.variables).mono ?_
      rintro e w1 ⟨rfl, rfl⟩
      go_wp2
      go_ret
      exact ⟨ret_bool (by rw [HT.out]), rfl⟩
    · have HT : Hid (isTakenF d x = true) := by show isTakenF d x = _; simp [isTakenF, h1, h2]
      go_enter Try.func61, Try.ntmps61
      go_wp2_with fail
      refine (has_any (H 0) d.labels x _ (by exact h.own 0 (by omega)) hs.labels).mono ?_
      rintro e w1 ⟨rfl, rfl⟩
      go_wp2_with fail
      refine (has_any (H 1) d.constants x _ (by exact h.own 1 (by omega)) hs.constants).mono ?_
      rintro e w1 ⟨rfl, rfl⟩
      go_wp2
      go_ret
      exact ⟨ret_bool (by rw [HT.out]), rfl⟩
  · have HT : Hid (isTakenF d x = true) := by show isTakenF d x = _; simp [isTakenF, h1]
    go_enter Try.func61, Try.ntmps61
    go_wp2_with fail
    refine (has_any (H 0) d.labels x _ (by exact h.own 0 (by omega)) hs.labels).mono ?_
    rintro e w1 ⟨rfl, rfl⟩
    go_wp2
    go_ret
    exact ⟨ret_bool (by rw [HT.out]), rfl⟩

set_option maxHeartbeats 400000 in
theorem isTakenV_any (b t o : Nat) (pre post : List Value) (d : Db) (H : Nat → Hd) (x : ByteArray) (w : World) (h : DbIs w b t pre post d H) (ho : pre.length = o) (hs : Small d 1073741824) :
    Calls Try.prog 62 #[.pointer (some ⟨b, o, none⟩), .string x] w fun e w' => e = .returned (.bool (isTakenVF d x)) ∧ w' = w := by
  obtain ⟨q0, q1, q2, q3, q4, q5, q6, q7, q8⟩ := h.cells o ho
  cases h1 : hasF d.labels x
  · cases h2 : hasF d.constants x
    · have HT : Hid (isTakenVF d x = hasF d.active x) := by show isTakenVF d x = _; simp [isTakenVF, h1, h2]
      go_enter Try.func62, Try.ntmps62
      go_wp2_with fail
      refine (has_any (H 0) d.labels x _ (by exact h.own 0 (by omega)) hs.labels).mono ?_
      rintro e w1 ⟨rfl, rfl⟩
      go_wp2_with fail
      refine (has_any (H 1) d.constants x _ (by exact h.own 1 (by omega)) hs.constants).mono ?_
      rintro e w1 ⟨rfl, rfl⟩
      go_wp2_with fail
      refine (has_any (H 3) d.active x _ (by exact h.own 3 (by omega)) hs.active).mono ?_
      rintro e w1 ⟨rfl, rfl⟩
      go_wp2
      go_ret
      exact ⟨ret_bool (by rw [HT.out]), rfl⟩
    · have HT : Hid (isTakenVF d x = true) := by show isTakenVF d x = _; simp [isTakenVF, h1, h2]
      go_enter Try.func62, Try.ntmps62
      go_wp2_with fail
      refine (has_any (H 0) d.labels x _ (by exact h.own 0 (by omega)) hs.labels).mono ?_
      rintro e w1 ⟨rfl, rfl⟩
      go_wp2_with fail
      refine (has_any (H 1) d.constants x _ (by exact h.own 1 (by omega)) hs.constants).mono ?_
      rintro e w1 ⟨rfl, rfl⟩
      go_wp2
      go_ret
      exact ⟨ret_bool (by rw [HT.out]), rfl⟩
  · have HT : Hid (isTakenVF d x = true) := by show isTakenVF d x = _; simp [isTakenVF, h1]
    go_enter Try.func62, Try.ntmps62
    go_wp2_with fail
    refine (has_any (H 0) d.labels x _ (by exact h.own 0 (by omega)) hs.labels).mono ?_
    rintro e w1 ⟨rfl, rfl⟩
    go_wp2
    go_ret
    exact ⟨ret_bool (by rw [HT.out]), rfl⟩

theorem inBlock_any (b t o : Nat) (pre post : List Value) (d : Db) (H : Nat → Hd) (w : World) (h : DbIs w b t pre post d H) (ho : pre.length = o) :
    Calls Try.prog 43 #[.pointer (some ⟨b, o, none⟩)] w fun e w' => e = .returned (.bool (decide (0 < d.blocks.length))) ∧ w' = w := by
  obtain ⟨q0, q1, q2, q3, q4, q5, q6, q7, q8⟩ := h.cells o ho
  go_enter Try.func43, Try.ntmps43
  go_wp2
  go_ret
  exact ⟨rfl, rfl⟩

def openF (d : Db) : Bool := d.kind != 0 || decide (0 < d.blocks.length)

theorem open_any (b t o : Nat) (pre post : List Value) (d : Db) (H : Nat → Hd) (w : World) (h : DbIs w b t pre post d H) (ho : pre.length = o) :
    Calls Try.prog 37 #[.pointer (some ⟨b, o, none⟩)] w fun e w' => e = .returned (.bool (openF d)) ∧ w' = w := by
  obtain ⟨q0, q1, q2, q3, q4, q5, q6, q7, q8⟩ := h.cells o ho
  cases hk : (d.kind != 0)
  · have HT : Hid (openF d = decide (0 < d.blocks.length)) := by show openF d = _; simp only [openF, hk, Bool.false_or]
    go_enter Try.func37, Try.ntmps37
    go_wp2_with fail
    refine (inBlock_any b t o pre post d H _ h ho).mono ?_
    rintro e w1 ⟨rfl, rfl⟩
    go_wp2
    go_ret
    exact ⟨ret_bool (by rw [HT.out]), rfl⟩
  · have HT : Hid (openF d = true) := by show openF d = _; simp only [openF, hk, Bool.true_or]
    go_enter Try.func37, Try.ntmps37
    go_wp2_with fail
    go_ret
    exact ⟨ret_bool (by rw [HT.out]), rfl⟩

def leastF (d : Db) : Int := if (d.kind == 4) = true ∨ (d.kind == 5) = true then 2 else 1

theorem least_any (b t o : Nat) (pre post : List Value) (d : Db) (H : Nat → Hd) (w : World) (h : DbIs w b t pre post d H) (ho : pre.length = o) :
    Calls Try.prog 58 #[.pointer (some ⟨b, o, none⟩)] w fun e w' => e = .returned (.int .i64 (leastF d)) ∧ w' = w := by
  obtain ⟨q0, q1, q2, q3, q4, q5, q6, q7, q8⟩ := h.cells o ho
  cases h4 : (d.kind == 4)
  · cases h5 : (d.kind == 5)
    all_goals
      have HT : Hid (leastF d = if (d.kind == 4) = true ∨ (d.kind == 5) = true then 2 else 1) := rfl
      go_enter Try.func58, Try.ntmps58
      go_wp2
      go_ret
      exact ⟨ret_int (by rw [HT.out, h4, h5]; simp), rfl⟩
  · have HT : Hid (leastF d = 2) := by show leastF d = _; simp only [leastF, h4]; simp
    go_enter Try.func58, Try.ntmps58
    go_wp2
    go_ret
    exact ⟨ret_int (by rw [HT.out]), rfl⟩

/-- The first c texts, as Go's own 'first' has them. -/
theorem first_any (hd : Hd) (l : List ByteArray) (c : Nat) (w : World) (ho : Owns w hd (rowS l)) (hc : c ≤ 1073741824) :
    Calls Try.prog 67 #[.slice hd.ao l.length hd.cap, .int .i64 c] w fun e w' => e = .returned (.slice hd.ao (if c ≤ l.length then c else l.length) hd.cap) ∧ w' = w := by
  obtain ⟨ao, cap⟩ := hd
  by_cases hle : c ≤ l.length
  · rcases ho.ways with ⟨e0, h0, _⟩ | ⟨g, cur, e1, e2, e3, e4, _⟩
    · have h0' : l.length = 0 := h0
      have hc0 : c = 0 := by omega
      subst hc0
      injection e0 with e0 e2
      subst e0 e2
      simp only [if_pos hle]
      rw [h0']
      clear ho h0 hle h0' hc
      go_enter Try.func67, Try.ntmps67
      go_wp2
      go_ret
      exact ⟨rfl, rfl⟩
    · simp only at e1 e3 e4
      have e3' : l.length ≤ cap := e3
      unfold maxLen at e4
      subst e1
      simp only [if_pos hle]
      go_enter Try.func67, Try.ntmps67
      go_wp2
      go_ret
      exact ⟨rfl, rfl⟩
  · simp only [if_neg hle]
    go_enter Try.func67, Try.ntmps67
    go_wp2
    go_ret
    exact ⟨rfl, rfl⟩

/-- What is left of an owned slice when it is cut. -/
theorem Owns.cut {w : World} {h : Hd} {l : List ByteArray} (o : Owns w h (rowS l)) (c : Nat) (hc : c ≤ l.length) : Owns w h (rowS (l.take c)) := by
  have hlen : (l.take c).length = c := by simp; omega
  rcases o.ways with ⟨e0, h0, _⟩ | ⟨g, cur, e1, e2, e3, e4, e5, e6⟩
  · have h0' : l.length = 0 := h0
    have : c = 0 := by omega
    subst this
    subst e0
    exact ⟨by simp [rowS, strs], Or.inl ⟨by simp [rowS], by simp [rowS]⟩⟩
  · obtain ⟨ao, cap⟩ := h
    simp only at e1 e3 e4 e5
    subst e1
    refine ⟨by simp [rowS, strs], Or.inr ⟨g, cap, cur, rfl, Nat.zero_le _, e2, ?_, e4, e5, ?_⟩⟩
    · have : l.length ≤ cap := e3
      simp only [rowS]; omega
    · have e6' : cur.toList.take (l.length * 1) = strs l := e6
      simp only [rowS, hlen]
      have : strs (l.take c) = (strs l).take c := by simp [strs, List.map_take]
      rw [this, ← e6', List.take_take]
      congr 1
      omega

end Go.Proofs.Ytkblmflajfomaaa
