/- Package table: names, the files of a table in memory, Find. -/
import Derived.Test.YtkblmflajfomaaaWords1
import Derived.Deep.LoopGhost
namespace Go.Proofs.Ytkblmflajfomaaa
open Go.RowKit

def nameB (n : Int) : Bool := decide (33 ≤ n) && decide (n ≤ 126) && !(n == 36)
/-- May a file bear this name? -/
def isNameF (s : ByteArray) : Bool := decide (1 ≤ s.size) && decide (s.size ≤ 8) && (List.range s.size).all (fun i => nameB (byteAt s i))
def checkF (n d : ByteArray) : Int := if isNameF n = false then 2 else if 1024 < d.size then 3 else 0

theorem isName_short (s : ByteArray) (h : s.size < 1 ∨ 8 < s.size) : isNameF s = false := by
  unfold isNameF
  rcases h with h | h
  · simp [show ¬ 1 ≤ s.size by omega]
  · simp [show ¬ s.size ≤ 8 by omega]
theorem isName_bad (s : ByteArray) (i : Nat) (h : i < s.size) (hb : nameB (byteAt s i) = false) : isNameF s = false := by
  unfold isNameF
  have : (List.range s.size).all (fun i => nameB (byteAt s i)) = false := by
    rw [List.all_eq_false]; exact ⟨i, by simp [h], by simp [hb]⟩
  simp [this]
theorem isName_good (s : ByteArray) (h1 : 1 ≤ s.size) (h2 : s.size ≤ 8) (h : ∀ i, i < s.size → nameB (byteAt s i) = true) : isNameF s = true := by
  unfold isNameF
  have : (List.range s.size).all (fun i => nameB (byteAt s i)) = true := by
    rw [List.all_eq_true]; intro i hi; exact h i (by simpa using hi)
  simp [this, h1, h2]

set_option maxHeartbeats 400000 in
theorem isName_any (s : ByteArray) (w : World) (hs : s.size ≤ 1073741824) :
    Calls Try.prog 31 #[.string s] w fun e w' => e = .returned (.bool (isNameF s)) ∧ w' = w := by
  by_cases h1 : 1 ≤ s.size
  · by_cases h2 : s.size ≤ 8
    · go_enter Try.func31, Try.ntmps31
      go_wp2
      go_loopg [3] s.size (fun g i wr => ∃ k : Nat, k ≤ s.size ∧ g = s.size - k ∧ i = .int .i64 k ∧ Hid (∀ i, i < k → nameB (byteAt s i) = true) ∧ wr = w)
      case atStart => exact ⟨0, by omega, by omega, rfl, fun i h => by omega, rfl⟩
      case round =>
        obtain ⟨k, hk, hg, rfl, hall, rfl⟩ := hrel
        by_cases hlt : k < s.size
        · have hq : ∀ b : Bool, nameB (s[k].toNat : Int) = b → nameB (byteAt s k) = b := fun b h => by rw [byteAt_of s k hlt]; exact h
          have HQ : Hid (∀ b : Bool, nameB (s[k].toNat : Int) = b → nameB (byteAt s k) = b) := hq
          clear hq
          go_wp2
          all_goals first
            | (go_ret; refine ⟨ret_bool ?_, rfl⟩; rw [isName_bad s k hlt (HQ.out false ?_)]; first | (simp [nameB]; omega) | (simp [nameB]; simp at *; omega))
            | (go_roundg (s.size - (k + 1))
               case measure => omega
               case rel =>
                 refine ⟨k + 1, by omega, rfl, by go_num, ?_, rfl⟩
                 intro i hi
                 by_cases e : i = k
                 · subst e; exact HQ.out true (by simp [nameB]; simp at *; omega)
                 · exact hall.out i (by omega))
        · go_wp2
          go_ret
          exact ⟨ret_bool (isName_good s h1 h2 (fun i hi => hall.out i (by omega))).symm, rfl⟩
    · go_enter Try.func31, Try.ntmps31
      go_wp2
      all_goals go_ret
      all_goals exact ⟨ret_bool (isName_short s (Or.inr (by omega))).symm, rfl⟩
  · go_enter Try.func31, Try.ntmps31
    go_wp2
    all_goals go_ret
    all_goals exact ⟨ret_bool (isName_short s (Or.inl (by omega))).symm, rfl⟩

set_option maxHeartbeats 400000 in
theorem check_any (n d : ByteArray) (w : World) (hn : n.size ≤ 1073741824) (hd : d.size ≤ 4294967296) :
    Calls Try.prog 27 #[.string n, .string d] w fun e w' => e = .returned (.int .i64 (checkF n d)) ∧ w' = w := by
  cases hb : isNameF n
  · go_enter Try.func27, Try.ntmps27
    go_wp2_with fail
    refine (isName_any n _ hn).mono ?_
    rintro e w1 ⟨rfl, rfl⟩
    go_wp2
    go_ret
    exact ⟨ret_int (by simp [checkF, hb]), rfl⟩
  · by_cases hl : 1024 < d.size
    · go_enter Try.func27, Try.ntmps27
      go_wp2_with fail
      refine (isName_any n _ hn).mono ?_
      rintro e w1 ⟨rfl, rfl⟩
      go_wp2
      go_ret
      exact ⟨ret_int (by simp [checkF, hb, hl]), rfl⟩
    · go_enter Try.func27, Try.ntmps27
      go_wp2_with fail
      refine (isName_any n _ hn).mono ?_
      rintro e w1 ⟨rfl, rfl⟩
      go_wp2
      go_ret
      exact ⟨ret_int (by simp [checkF, hb, hl]), rfl⟩

/-- The files of a table. -/
def fileNm (fs : List (ByteArray × ByteArray)) (i : Nat) : ByteArray := (fs.getD i (⟨#[]⟩, ⟨#[]⟩)).1
def fileDt (fs : List (ByteArray × ByteArray)) (i : Nat) : ByteArray := (fs.getD i (⟨#[]⟩, ⟨#[]⟩)).2
def tabList (fs : List (ByteArray × ByteArray)) : List Value :=
  [.string (fileNm fs 0), .string (fileDt fs 0), .string (fileNm fs 1), .string (fileDt fs 1), .string (fileNm fs 2), .string (fileDt fs 2), .string (fileNm fs 3), .string (fileDt fs 3), .int .i64 fs.length]
/-- A table at the head of block v (of type t), with more cells behind it. -/
def TabAt (w : World) (v t : Nat) (fs : List (ByteArray × ByteArray)) (more : List Value) : Prop := w.heap[v]? = some (.cells (tabList fs ++ more).toArray t (0, 0)) ∧ fs.length ≤ 4

theorem TabAt.name {w : World} {v t : Nat} {fs : List (ByteArray × ByteArray)} {more : List Value} (h : TabAt w v t fs more) (i : Nat) (hi : i < 4) :
    w.cell? ⟨v, i * 2, none⟩ = some (.string (fileNm fs i)) ∧ w.cell? ⟨v, i * 2 + 1, none⟩ = some (.string (fileDt fs i)) := by
  constructor <;> rw [cell_of h.1]
  · match i, hi with
    | 0, _ => rfl
    | 1, _ => rfl
    | 2, _ => rfl
    | 3, _ => rfl
  · match i, hi with
    | 0, _ => rfl
    | 1, _ => rfl
    | 2, _ => rfl
    | 3, _ => rfl
theorem TabAt.count {w : World} {v t : Nat} {fs : List (ByteArray × ByteArray)} {more : List Value} (h : TabAt w v t fs more) :
    w.cell? ⟨v, 8, none⟩ = some (.int .i64 fs.length) := by
  rw [cell_of h.1]; rfl

def findFrom (n : ByteArray) : List (ByteArray × ByteArray) → Nat → Int
  | [], _ => -1
  | f :: r, i => if (f.1.toList == n.toList) = true then i else findFrom n r (i + 1)
/-- The place of the first file of that name, or -1. -/
def findF (fs : List (ByteArray × ByteArray)) (n : ByteArray) : Int := findFrom n fs 0

theorem drop_at {α : Type} (l : List α) (k : Nat) (h : k < l.length) : l.drop k = l[k] :: l.drop (k + 1) := List.drop_eq_getElem_cons h
theorem fileNm_at (fs : List (ByteArray × ByteArray)) (k : Nat) (h : k < fs.length) : fileNm fs k = fs[k].1 := by
  unfold fileNm; rw [List.getD_eq_getElem?_getD, List.getElem?_eq_getElem h]; rfl
theorem find_hit (fs : List (ByteArray × ByteArray)) (n : ByteArray) (k : Nat) (h : k < fs.length) (he : findF fs n = findFrom n (fs.drop k) k) (hb : ((fileNm fs k).toList == n.toList) = true) : findF fs n = k := by
  rw [he, drop_at _ _ h, findFrom, ← fileNm_at fs k h, if_pos hb]
theorem find_miss (fs : List (ByteArray × ByteArray)) (n : ByteArray) (k : Nat) (h : k < fs.length) (he : findF fs n = findFrom n (fs.drop k) k) (hb : ((fileNm fs k).toList == n.toList) = false) : findF fs n = findFrom n (fs.drop (k + 1)) (k + 1) := by
  rw [he, drop_at _ _ h, findFrom, ← fileNm_at fs k h, if_neg (by simp [hb])]
theorem find_over (fs : List (ByteArray × ByteArray)) (n : ByteArray) (k : Nat) (h : ¬ k < fs.length) (he : findF fs n = findFrom n (fs.drop k) k) : findF fs n = -1 := by
  rw [he, List.drop_of_length_le (by omega), findFrom]

set_option maxHeartbeats 400000 in
theorem find_any (v t : Nat) (fs : List (ByteArray × ByteArray)) (more : List Value) (n : ByteArray) (w : World) (h : TabAt w v t fs more) :
    Calls Try.prog 21 #[.pointer (some ⟨v, 0, none⟩), .string n] w fun e w' => e = .returned (.int .i64 (findF fs n)) ∧ w' = w := by
  have hcnt := h.count
  have hlen := h.2
  go_enter Try.func21, Try.ntmps21
  go_wp2
  go_loopg [5] fs.length (fun g i wr => ∃ k : Nat, k ≤ fs.length ∧ g = fs.length - k ∧ i = .int .i64 k ∧ Hid (findF fs n = findFrom n (fs.drop k) k) ∧ wr = w)
  case atStart => exact ⟨0, by omega, by omega, rfl, rfl, rfl⟩
  case round =>
    obtain ⟨k, hk, hg, rfl, hall, rfl⟩ := hrel
    by_cases hlt : k < fs.length
    · obtain ⟨q0, q1⟩ := h.name k (by omega)
      cases hb : ((fileNm fs k).toList == n.toList)
      · have HM : Hid (findF fs n = findFrom n (fs.drop (k + 1)) (k + 1)) := find_miss fs n k hlt hall.out hb
        clear hall
        go_wp2
        go_roundg (fs.length - (k + 1))
        case measure => omega
        case rel => exact ⟨k + 1, by omega, rfl, by go_num, HM, rfl⟩
      · have HM : Hid (findF fs n = k) := find_hit fs n k hlt hall.out hb
        clear hall
        go_wp2
        go_ret
        exact ⟨ret_int HM.out.symm, rfl⟩
    · have HM : Hid (findF fs n = -1) := find_over fs n k hlt hall.out
      clear hall
      go_wp2
      go_ret
      exact ⟨ret_int HM.out.symm, rfl⟩

end Go.Proofs.Ytkblmflajfomaaa
