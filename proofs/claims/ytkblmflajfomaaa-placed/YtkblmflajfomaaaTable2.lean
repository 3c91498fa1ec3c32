/- Package table: File, add, Put. -/
import Derived.Test.YtkblmflajfomaaaTable1
namespace Go.Proofs.Ytkblmflajfomaaa
open Go.RowKit

theorem TabAt.free {w : World} {v t : Nat} {fs : List (ByteArray × ByteArray)} {more : List Value} (h : TabAt w v t fs more) (i : Nat) : w.frozen? ⟨v, i, none⟩ = false := free_of h.1 i
theorem TabAt.kept {w w' : World} {v t : Nat} {fs : List (ByteArray × ByteArray)} {more : List Value} {S : List Nat} (h : TabAt w v t fs more) (hk : Kept S w w') (hv : v ∉ S) : TabAt w' v t fs more :=
  ⟨hk.get h.1 hv, h.2⟩
theorem TabAt.lt {w : World} {v t : Nat} {fs : List (ByteArray × ByteArray)} {more : List Value} (h : TabAt w v t fs more) : v < w.heap.size := lt_of_get h.1

set_option maxHeartbeats 400000 in
theorem file_any (v t k : Nat) (fs : List (ByteArray × ByteArray)) (more : List Value) (w : World) (h : TabAt w v t fs more) (hk : k < fs.length) :
    Calls Try.prog 33 #[.pointer (some ⟨v, 0, none⟩), .int .i64 k] w fun e w' => e = .returned (.agg #[.string (fileNm fs k), .string (fileDt fs k)]) ∧ Kept [] w w' := by
  have hcnt := h.count
  have hlen := h.2
  have hlt := h.lt
  obtain ⟨q0, q1⟩ := h.name k (by omega)
  go_enter Try.func33, Try.ntmps33
  go_wp2
  exact bodyPost_ret (v := .agg #[.string (fileNm fs k), .string (fileDt fs k)]) (by simp [results, Try.results33, go_sem]) rfl ⟨rfl, (Kept.refl _ _).alloc _⟩

theorem tab_add (fs : List (ByteArray × ByteArray)) (more : List Value) (n d : ByteArray) (h : fs.length < 4) :
    (((tabList fs ++ more).set (fs.length * 2) (.string n)).set (fs.length * 2 + 1) (.string d)).set 8 (.int .i64 ((fs.length : Int) + 1)) = tabList (fs ++ [(n, d)]) ++ more := by
  match fs, h with
  | [], _ => rfl
  | [a], _ => rfl
  | [a, b], _ => rfl
  | [a, b, c], _ => rfl

theorem tab_set (fs : List (ByteArray × ByteArray)) (more : List Value) (n d : ByteArray) (k : Nat) (hk : k < fs.length) (h : fs.length ≤ 4) :
    ((tabList fs ++ more).set (k * 2) (.string n)).set (k * 2 + 1) (.string d) = tabList (fs.set k (n, d)) ++ more := by
  match fs, h, k, hk with
  | [a], _, 0, _ => rfl
  | [a, b], _, 0, _ => rfl
  | [a, b], _, 1, _ => rfl
  | [a, b, c], _, 0, _ => rfl
  | [a, b, c], _, 1, _ => rfl
  | [a, b, c], _, 2, _ => rfl
  | [a, b, c, e], _, 0, _ => rfl
  | [a, b, c, e], _, 1, _ => rfl
  | [a, b, c, e], _, 2, _ => rfl
  | [a, b, c, e], _, 3, _ => rfl

theorem TabAt.added {w : World} {v t : Nat} {fs : List (ByteArray × ByteArray)} {more : List Value} (h : TabAt w v t fs more) (n d : ByteArray) (hk : fs.length < 4) :
    TabAt (((w.setCell ⟨v, fs.length * 2, none⟩ (.string n)).setCell ⟨v, fs.length * 2 + 1, none⟩ (.string d)).setCell ⟨v, 8, none⟩ (.int .i64 ((fs.length : Int) + 1))) v t (fs ++ [(n, d)]) more := by
  have h4 := block_setCell (block_setCell (block_setCell h.1 (fs.length * 2) (.string n)) (fs.length * 2 + 1) (.string d)) 8 (.int .i64 ((fs.length : Int) + 1))
  refine ⟨?_, by simp; omega⟩
  rw [h4]
  simp only [List.setIfInBounds_toArray, tab_add fs more n d hk]

theorem TabAt.turned {w : World} {v t : Nat} {fs : List (ByteArray × ByteArray)} {more : List Value} (h : TabAt w v t fs more) (n d : ByteArray) (k : Nat) (hk : k < fs.length) :
    TabAt ((w.setCell ⟨v, k * 2, none⟩ (.string n)).setCell ⟨v, k * 2 + 1, none⟩ (.string d)) v t (fs.set k (n, d)) more := by
  have h4 := block_setCell (block_setCell h.1 (k * 2) (.string n)) (k * 2 + 1) (.string d)
  refine ⟨?_, by simpa using h.2⟩
  rw [h4]
  simp only [List.setIfInBounds_toArray, tab_set fs more n d k hk h.2]

set_option maxHeartbeats 400000 in
theorem add_any (v t : Nat) (n d : ByteArray) (fs : List (ByteArray × ByteArray)) (more : List Value) (w : World) (h : TabAt w v t fs more) (hk : fs.length < 4) :
    Calls Try.prog 28 #[.pointer (some ⟨v, 0, none⟩), .agg #[.string n, .string d]] w fun e w' => e = .returned (.tuple #[]) ∧ TabAt w' v t (fs ++ [(n, d)]) more ∧ Kept [v] w w' := by
  have hcnt := h.count
  have hfr := h.free
  have hlt := h.lt
  obtain ⟨q0, q1⟩ := h.name fs.length (by omega)
  go_enter Try.func28, Try.ntmps28
  go_wp2
  go_region
  all_goals go_wp2
  all_goals go_end0
  exact ⟨rfl, (h.added n d hk).kept ((Kept.refl [] _).alloc _ |>.drew) (by simp), ((((Kept.refl _ _).setCell (Or.inl (by simp)) _).setCell (Or.inl (by simp)) _).setCell (Or.inl (by simp)) _).alloc _ |>.drew⟩

/-- What Put answers, and the files behind it. -/
def putF (fs : List (ByteArray × ByteArray)) (n d : ByteArray) : Int × List (ByteArray × ByteArray) :=
  if checkF n d ≠ 0 then (checkF n d, fs)
  else if 0 ≤ findF fs n then (0, fs.set (findF fs n).toNat (n, d))
  else if 4 ≤ fs.length then (1, fs) else (0, fs ++ [(n, d)])

theorem findFrom_le (n : ByteArray) (fs : List (ByteArray × ByteArray)) (i : Nat) : findFrom n fs i = -1 ∨ ((i : Int) ≤ findFrom n fs i ∧ findFrom n fs i < i + fs.length) := by
  induction fs generalizing i with
  | nil => exact Or.inl rfl
  | cons f r ih =>
    rw [findFrom]; split
    · exact Or.inr ⟨by omega, by simp; omega⟩
    · rcases ih (i + 1) with h | h
      · exact Or.inl h
      · exact Or.inr ⟨by omega, by simp; omega⟩
theorem findF_le (n : ByteArray) (fs : List (ByteArray × ByteArray)) : findF fs n = -1 ∨ ∃ k : Nat, k < fs.length ∧ findF fs n = k := by
  rcases findFrom_le n fs 0 with h | h
  · exact Or.inl h
  · refine Or.inr ⟨(findF fs n).toNat, ?_, ?_⟩ <;> (unfold findF; omega)

set_option maxHeartbeats 800000 in
theorem put_any (v t : Nat) (n d : ByteArray) (fs : List (ByteArray × ByteArray)) (more : List Value) (w : World) (h : TabAt w v t fs more) (hn : n.size ≤ 1073741824) (hd : d.size ≤ 4294967296) :
    Calls Try.prog 20 #[.pointer (some ⟨v, 0, none⟩), .string n, .string d] w fun e w' => e = .returned (.int .i64 (putF fs n d).1) ∧ TabAt w' v t (putF fs n d).2 more ∧ Kept [v] w w' := by
  have hcnt := h.count
  have hlt := h.lt
  have hlen := h.2
  by_cases hc : checkF n d = 0
  · rcases findF_le n fs with hf | ⟨k, hk, hf⟩
    · by_cases hl : 4 ≤ fs.length
      · have HP : Hid (putF fs n d = (1, fs)) := by show putF fs n d = _; simp [putF, hc, hf, hl]
        have HC : Hid (checkF n d = 0) := hc
        have HFF : Hid (findF fs n = -1) := hf
        clear hc hf
        go_enter Try.func20, Try.ntmps20
        go_wp2_with fail
        refine (check_any n d _ hn hd).mono ?_
        rintro e w1 ⟨rfl, rfl⟩
        rw [HC.out]
        go_wp2_with fail
        refine (find_any v t fs more n _ (by exact h.kept ((Kept.refl [] _).alloc _) (by simp))).mono ?_
        rintro e w1 ⟨rfl, rfl⟩
        rw [HFF.out]
        go_wp2
        go_ret
        exact ⟨ret_int (by rw [HP.out]), by rw [HP.out]; exact h.kept ((Kept.refl [] _).alloc _) (by simp), (Kept.refl _ _).alloc _⟩
      · have HP : Hid (putF fs n d = (0, fs ++ [(n, d)])) := by show putF fs n d = _; simp [putF, hc, hf, hl]
        have HC : Hid (checkF n d = 0) := hc
        have HFF : Hid (findF fs n = -1) := hf
        clear hc hf
        go_enter Try.func20, Try.ntmps20
        go_wp2_with fail
        refine (check_any n d _ hn hd).mono ?_
        rintro e w1 ⟨rfl, rfl⟩
        rw [HC.out]
        go_wp2_with fail
        refine (find_any v t fs more n _ (by exact h.kept ((Kept.refl [] _).alloc _) (by simp))).mono ?_
        rintro e w1 ⟨rfl, rfl⟩
        rw [HFF.out]
        go_wp2_with fail
        refine (add_any v t n d fs more _ (by exact h.kept ((Kept.refl [] _).alloc _) (by simp)) (by omega)).mono ?_
        rintro e w2 ⟨rfl, h2, hk2⟩
        go_wp2
        go_ret
        exact ⟨ret_int (by rw [HP.out]), by rw [HP.out]; exact h2, ((Kept.refl _ _).alloc _).trans hk2⟩
    · have HP : Hid (putF fs n d = (0, fs.set k (n, d))) := by show putF fs n d = _; simp [putF, hc, hf]
      have HC : Hid (checkF n d = 0) := hc
      have HFF : Hid (findF fs n = k) := hf
      obtain ⟨q0, q1⟩ := h.name k (by omega)
      have hfr := h.free
      clear hc hf
      go_enter Try.func20, Try.ntmps20
      go_wp2_with fail
      refine (check_any n d _ hn hd).mono ?_
      rintro e w1 ⟨rfl, rfl⟩
      rw [HC.out]
      go_wp2_with fail
      refine (find_any v t fs more n _ (by exact h.kept ((Kept.refl [] _).alloc _) (by simp))).mono ?_
      rintro e w1 ⟨rfl, rfl⟩
      rw [HFF.out]
      go_wp2_with fail
      go_region
      all_goals go_wp2
      all_goals go_ret
      exact ⟨ret_int (by rw [HP.out]), by rw [HP.out]; exact (h.turned n d k hk).kept ((Kept.refl [] _).alloc _ |>.drew) (by simp), (((Kept.refl _ _).setCell (Or.inl (by simp)) _).setCell (Or.inl (by simp)) _).alloc _ |>.drew⟩
  · have HP : Hid (putF fs n d = (checkF n d, fs)) := by show putF fs n d = _; simp [putF, hc]
    have hc' : (checkF n d != 0) = true := by simp [hc]
    clear hc
    go_enter Try.func20, Try.ntmps20
    go_wp2_with fail
    refine (check_any n d _ hn hd).mono ?_
    rintro e w1 ⟨rfl, rfl⟩
    go_wp2
    go_ret
    exact ⟨ret_int (by rw [HP.out]), by rw [HP.out]; exact h, Kept.refl _ _⟩

end Go.Proofs.Ytkblmflajfomaaa
