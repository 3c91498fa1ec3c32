/- Our texts: Words3, WordsG, Words4, Words5, Table1, Table2, Own, Own2. -/
import Derived.Deep.LoopGhost
import Derived.Laws.CopyRow
import Derived.Laws.MakeOwn
import Derived.Deep.RegionLaw
import Derived.Test.YtcipkfhpcbddiaaGreatG01
import Derived.Test.YtcipkfhpcbddiaaGreatG02
/- Package words: IsWord, the two looks into a word, comment, Next. -/
namespace Go.Proofs.YtcipkfhpcbddiaaGreat
open Go.RowKit

def isWordF (i : Item) : Bool := i.rule == 0 && !i.fin

set_option maxHeartbeats 400000 in
theorem isWord_any (t n : ByteArray) (r l c : Int) (f : Bool) (w : World) :
    Calls Tryz.prog 61 #[.agg #[.string t, .int .i64 r, .bool f, .string n, .int .i64 l, .int .i64 c]] w fun e w' => e = .returned (.bool (r == 0 && !f)) ∧ Kept [] w w' := by
  cases hr : (r == 0)
  · go_enter Tryz.func61, Tryz.ntmps61
    go_wp2
    go_ret
    exact ⟨ret_bool (by simp), (Kept.refl _ _).alloc _⟩
  · go_enter Tryz.func61, Tryz.ntmps61
    go_wp2
    go_ret
    exact ⟨ret_bool (by simp), (Kept.refl _ _).alloc _⟩

/-- Does the text hold a dollar sign? -/
def dollarF (s : ByteArray) : Bool := (List.range s.size).any (fun i => byteAt s i == 36)
/-- Does it hold '$(' or '$)'? -/
def bracketF (s : ByteArray) : Bool := (List.range s.size).any (fun i => decide (1 ≤ i) && (byteAt s (i - 1) == 36) && ((byteAt s i == 40) || (byteAt s i == 41)))

theorem any_yes {n : Nat} {p : Nat → Bool} (i : Nat) (h : i < n) (hp : p i = true) : (List.range n).any p = true := by
  rw [List.any_eq_true]; exact ⟨i, by simpa using h, hp⟩
theorem any_no {n : Nat} {p : Nat → Bool} (h : ∀ i, i < n → p i = false) : (List.range n).any p = false := by
  rw [List.any_eq_false]; intro i hi; simp [h i (by simpa using hi)]

set_option maxHeartbeats 400000 in
theorem dollar_any (s : ByteArray) (w : World) (hs : s.size ≤ 1073741824) :
    Calls Tryz.prog 96 #[.string s] w fun e w' => e = .returned (.bool (dollarF s)) ∧ w' = w := by
  go_enter Tryz.func96, Tryz.ntmps96
  go_wp2
  go_loopg [3] s.size (fun g i wr => ∃ k : Nat, k ≤ s.size ∧ g = s.size - k ∧ i = .int .i64 k ∧ Hid (∀ i, i < k → (byteAt s i == 36) = false) ∧ wr = w)
  case atStart => exact ⟨0, by omega, by omega, rfl, fun i h => by omega, rfl⟩
  case round =>
    obtain ⟨k, hk, hg, rfl, hall, rfl⟩ := hrel
    by_cases hlt : k < s.size
    · cases hb : ((s[k].toNat : Int) == 36)
      · go_wp2
        go_roundg (s.size - (k + 1))
        case measure => omega
        case rel =>
          refine ⟨k + 1, by omega, rfl, by go_num, ?_, rfl⟩
          intro i hi
          by_cases e : i = k
          · subst e; rw [byteAt_of s i hlt]; exact hb
          · exact hall.out i (by omega)
      · have HY : Hid (dollarF s = true) := any_yes k hlt (by rw [byteAt_of s k hlt]; exact hb)
        go_wp2
        go_ret
        exact ⟨ret_bool HY.out.symm, rfl⟩
    · have HY : Hid (dollarF s = false) := any_no (fun i hi => hall.out i (by omega))
      go_wp2
      go_ret
      exact ⟨ret_bool HY.out.symm, rfl⟩

set_option maxHeartbeats 400000 in
theorem bracket_any (s : ByteArray) (w : World) (hs : s.size ≤ 1073741824) :
    Calls Tryz.prog 95 #[.string s] w fun e w' => e = .returned (.bool (bracketF s)) ∧ w' = w := by
  go_enter Tryz.func95, Tryz.ntmps95
  go_wp2
  go_loopg [3] (s.size - 1) (fun g i wr => ∃ k : Nat, 1 ≤ k ∧ (k ≤ s.size ∨ k = 1) ∧ g = s.size - k ∧ i = .int .i64 k ∧ Hid (∀ i, i < k → 1 ≤ i → ((byteAt s (i - 1) == 36) && ((byteAt s i == 40) || (byteAt s i == 41))) = false) ∧ wr = w)
  case atStart => exact ⟨1, by omega, by omega, rfl, rfl, fun i h h' => by omega, rfl⟩
  case round =>
    obtain ⟨k, hk1, hk, hg, rfl, hall, rfl⟩ := hrel
    by_cases hlt : k < s.size
    · have hlt1 : k - 1 < s.size := by omega
      have hq : ∀ b : Bool, (((s[k - 1].toNat : Int) == 36) && (((s[k].toNat : Int) == 40) || ((s[k].toNat : Int) == 41))) = b → ((byteAt s (k - 1) == 36) && ((byteAt s k == 40) || (byteAt s k == 41))) = b :=
        fun b h => by rw [byteAt_of s k hlt, byteAt_of s (k - 1) hlt1]; exact h
      have HQ : Hid (∀ b : Bool, (((s[k - 1].toNat : Int) == 36) && (((s[k].toNat : Int) == 40) || ((s[k].toNat : Int) == 41))) = b → ((byteAt s (k - 1) == 36) && ((byteAt s k == 40) || (byteAt s k == 41))) = b) := hq
      clear hq
      go_wp2
      all_goals first
        | (go_ret
           refine ⟨ret_bool ?_, rfl⟩
           refine (any_yes (p := fun i => decide (1 ≤ i) && (byteAt s (i - 1) == 36) && ((byteAt s i == 40) || (byteAt s i == 41))) k hlt ?_).symm
           have := HQ.out true (by simp_all)
           simp only [Bool.and_assoc, this]; simp [hk1])
        | (go_roundg (s.size - (k + 1))
           case measure => omega
           case rel =>
             refine ⟨k + 1, by omega, by omega, rfl, by go_num, ?_, rfl⟩
             intro i hi h1
             by_cases e : i = k
             · subst e; exact HQ.out false (by simp_all)
             · exact hall.out i (by omega) h1)
    · have HY : Hid (bracketF s = false) := any_no (fun i hi => by
        by_cases h1 : 1 ≤ i
        · have := hall.out i (by omega) h1; simp only [Bool.and_assoc, this]; simp
        · simp [h1])
      go_wp2
      go_ret
      exact ⟨ret_bool HY.out.symm, rfl⟩

end Go.Proofs.YtcipkfhpcbddiaaGreat

/- Package words, as functions: comment, Next. -/
namespace Go.Proofs.YtcipkfhpcbddiaaGreat
open Go.RowKit

theorem runF_le (d : ByteArray) (k : Nat) (h : k ≤ d.size) : k ≤ (runF d k).2 ∧ (runF d k).2 ≤ d.size ∧ (isWordF (runF d k).1 = true → k < (runF d k).2) := by
  have a := skip_le d k h
  have b := wordEnd_le d (skip d k) a.2
  unfold runF
  simp only
  split
  · exact ⟨by omega, b.2, by simp [isWordF]⟩
  · split
    · exact ⟨by omega, b.2, by simp [isWordF]⟩
    · exact ⟨by simp only; omega, b.2, fun _ => by simp only; omega⟩

/-- Behind a comment: its last item, and the place; the fuel: more than the bytes that are left. -/
def commentTo (d : ByteArray) : Nat → Nat → Item × Nat
  | 0, k => (⟨⟨#[]⟩, 3, false, k⟩, k)
  | f + 1, k =>
    if isWordF (runF d k).1 = true ∧ ¬ (runF d k).1.text.toList = [36, 41] then
      if bracketF (runF d k).1.text = true then (⟨⟨#[]⟩, 2, false, (runF d k).1.pos⟩, (runF d k).2) else commentTo d f (runF d k).2
    else if (runF d k).1.fin = true then (⟨⟨#[]⟩, 3, false, (runF d k).1.pos⟩, (runF d k).2) else runF d k
def commentF (d : ByteArray) (k : Nat) : Item × Nat := commentTo d (d.size - k + 1) k

/-- More fuel changes nothing. -/
theorem commentTo_fuel (d : ByteArray) (f k : Nat) (hk : k ≤ d.size) (hf : d.size - k + 1 ≤ f) : commentTo d f k = commentF d k := by
  unfold commentF
  suffices h : ∀ f g k, k ≤ d.size → d.size - k + 1 ≤ f → d.size - k + 1 ≤ g → commentTo d f k = commentTo d g k from h _ _ _ hk hf (Nat.le_refl _)
  clear hf hk f k
  intro f
  induction f with
  | zero => intro g k _ h; omega
  | succ f ih =>
    intro g k hk hf hg
    cases g with
    | zero => omega
    | succ g =>
      rw [commentTo, commentTo]
      split
      · next h =>
        have hl := runF_le d k hk
        have hl2 := hl.2.2 h.1
        split
        · rfl
        · exact ih g (runF d k).2 hl.2.1 (by omega) (by omega)
      · rfl

theorem comment_on (d : ByteArray) (k : Nat) (hk : k ≤ d.size) (h1 : isWordF (runF d k).1 = true) (h2 : ((runF d k).1.text.toList == [36, 41]) = false) (h3 : bracketF (runF d k).1.text = false) : commentF d k = commentF d (runF d k).2 := by
  have hl := runF_le d k hk
  have hl2 := hl.2.2 h1
  conv => lhs; unfold commentF
  rw [commentTo, if_pos ⟨h1, by simpa using h2⟩, if_neg (by simp [h3]), commentTo_fuel d _ _ hl.2.1 (by omega)]
theorem comment_nest (d : ByteArray) (k : Nat) (h1 : isWordF (runF d k).1 = true) (h2 : ((runF d k).1.text.toList == [36, 41]) = false) (h3 : bracketF (runF d k).1.text = true) : commentF d k = (⟨⟨#[]⟩, 2, false, (runF d k).1.pos⟩, (runF d k).2) := by
  unfold commentF
  rw [commentTo, if_pos ⟨h1, by simpa using h2⟩, if_pos h3]
theorem comment_open (d : ByteArray) (k : Nat) (h1 : isWordF (runF d k).1 = false) (h2 : (runF d k).1.fin = true) : commentF d k = (⟨⟨#[]⟩, 3, false, (runF d k).1.pos⟩, (runF d k).2) := by
  unfold commentF
  rw [commentTo, if_neg (by simp [h1]), if_pos h2]
theorem comment_bad (d : ByteArray) (k : Nat) (h1 : isWordF (runF d k).1 = false) (h2 : (runF d k).1.fin = false) : commentF d k = runF d k := by
  unfold commentF
  rw [commentTo, if_neg (by simp [h1]), if_neg (by simp [h2])]
theorem comment_close (d : ByteArray) (k : Nat) (h1 : isWordF (runF d k).1 = true) (h2 : ((runF d k).1.text.toList == [36, 41]) = true) : commentF d k = runF d k := by
  unfold commentF
  rw [commentTo, if_neg (by intro h; exact h.2 (by simpa using h2))]
  rw [if_neg (by intro h; simp [isWordF, h] at h1)]

theorem commentF_le (d : ByteArray) (k : Nat) (hk : k ≤ d.size) : k ≤ (commentF d k).2 ∧ (commentF d k).2 ≤ d.size := by
  unfold commentF
  suffices h : ∀ f k, k ≤ d.size → k ≤ (commentTo d f k).2 ∧ (commentTo d f k).2 ≤ d.size from h _ _ hk
  clear hk k
  intro f
  induction f with
  | zero => intro k hk; simp [commentTo, hk]
  | succ f ih =>
    intro k hk
    have hl := runF_le d k hk
    rw [commentTo]
    split
    · split
      · exact ⟨hl.1, hl.2.1⟩
      · have := ih (runF d k).2 hl.2.1; omega
    · split
      · exact ⟨hl.1, hl.2.1⟩
      · exact ⟨hl.1, hl.2.1⟩

/-- The next word that is in no comment. -/
def nextTo (d : ByteArray) : Nat → Nat → Item × Nat
  | 0, k => (⟨⟨#[]⟩, 0, true, k⟩, k)
  | f + 1, k =>
    if isWordF (runF d k).1 = true ∧ (runF d k).1.text.toList = [36, 40] then
      if isWordF (commentF d (runF d k).2).1 = true then nextTo d f (commentF d (runF d k).2).2 else commentF d (runF d k).2
    else runF d k
def nextF (d : ByteArray) (k : Nat) : Item × Nat := nextTo d (d.size - k + 1) k

theorem nextTo_fuel (d : ByteArray) (f k : Nat) (hk : k ≤ d.size) (hf : d.size - k + 1 ≤ f) : nextTo d f k = nextF d k := by
  unfold nextF
  suffices h : ∀ f g k, k ≤ d.size → d.size - k + 1 ≤ f → d.size - k + 1 ≤ g → nextTo d f k = nextTo d g k from h _ _ _ hk hf (Nat.le_refl _)
  clear hf hk f k
  intro f
  induction f with
  | zero => intro g k _ h; omega
  | succ f ih =>
    intro g k hk hf hg
    cases g with
    | zero => omega
    | succ g =>
      rw [nextTo, nextTo]
      split
      · next h =>
        have hl := runF_le d k hk
        have hl2 := hl.2.2 h.1
        have hc := commentF_le d (runF d k).2 hl.2.1
        split
        · exact ih g _ hc.2 (by omega) (by omega)
        · rfl
      · rfl
theorem next_on (d : ByteArray) (k : Nat) (hk : k ≤ d.size) (h1 : isWordF (runF d k).1 = true) (h2 : ((runF d k).1.text.toList == [36, 40]) = true) (h3 : isWordF (commentF d (runF d k).2).1 = true) :
    nextF d k = nextF d (commentF d (runF d k).2).2 := by
  have hl := runF_le d k hk
  have hl2 := hl.2.2 h1
  have hc := commentF_le d (runF d k).2 hl.2.1
  conv => lhs; unfold nextF
  rw [nextTo, if_pos ⟨h1, by simpa using h2⟩, if_pos h3, nextTo_fuel d _ _ hc.2 (by omega)]
theorem next_broken (d : ByteArray) (k : Nat) (h1 : isWordF (runF d k).1 = true) (h2 : ((runF d k).1.text.toList == [36, 40]) = true) (h3 : isWordF (commentF d (runF d k).2).1 = false) :
    nextF d k = commentF d (runF d k).2 := by
  unfold nextF
  rw [nextTo, if_pos ⟨h1, by simpa using h2⟩, if_neg (by simp [h3])]
theorem next_plain (d : ByteArray) (k : Nat) (h : isWordF (runF d k).1 = false ∨ ((runF d k).1.text.toList == [36, 40]) = false) : nextF d k = runF d k := by
  unfold nextF
  rw [nextTo, if_neg (by rintro ⟨a, b⟩; rcases h with h | h; · simp [h] at a
                         · simp [b] at h)]
theorem nextF_le (d : ByteArray) (k : Nat) (hk : k ≤ d.size) : k ≤ (nextF d k).2 ∧ (nextF d k).2 ≤ d.size ∧ (isWordF (nextF d k).1 = true → k < (nextF d k).2) := by
  unfold nextF
  suffices h : ∀ f k, k ≤ d.size → k ≤ (nextTo d f k).2 ∧ (nextTo d f k).2 ≤ d.size ∧ (isWordF (nextTo d f k).1 = true → k < (nextTo d f k).2) from h _ _ hk
  clear hk k
  intro f
  induction f with
  | zero => intro k hk; simp [nextTo, hk, isWordF]
  | succ f ih =>
    intro k hk
    have hl := runF_le d k hk
    have hc := commentF_le d (runF d k).2 hl.2.1
    rw [nextTo]
    split
    · next h =>
      have hl2 := hl.2.2 h.1
      split
      · have := ih (commentF d (runF d k).2).2 hc.2; omega
      · omega
    · exact hl

end Go.Proofs.YtcipkfhpcbddiaaGreat

/- Package words: comment, Next. -/
namespace Go.Proofs.YtcipkfhpcbddiaaGreat
open Go.RowKit
attribute [local go_sem] build_rule build_fin build_text

/-- Block r is an item's variable. -/
def ItemAt (w : World) (r : Nat) (n d : ByteArray) (i : Item) : Prop :=
  w.heap[r]? = some (.cells #[.string i.text, .int .i64 i.rule, .bool i.fin, .string n, .int .i64 (lineAt d i.pos), .int .i64 (colAt d i.pos)] 133 (0, 0))

theorem ItemAt.cells {w : World} {r : Nat} {n d t : ByteArray} {u : Int} {f : Bool} {p : Nat} (h : ItemAt w r n d ⟨t, u, f, p⟩) :
    w.cell? ⟨r, 0, none⟩ = some (.string t) ∧ w.cell? ⟨r, 1, none⟩ = some (.int .i64 u) ∧ w.cell? ⟨r, 2, none⟩ = some (.bool f) ∧
    w.cell? ⟨r, 3, none⟩ = some (.string n) ∧ w.cell? ⟨r, 4, none⟩ = some (.int .i64 (lineAt d p)) ∧ w.cell? ⟨r, 5, none⟩ = some (.int .i64 (colAt d p)) := by
  refine ⟨?_, ?_, ?_, ?_, ?_, ?_⟩ <;> (rw [cell_of h]; rfl)
theorem ItemAt.kept {w w' : World} {r : Nat} {n d : ByteArray} {i : Item} {S : List Nat} (h : ItemAt w r n d i) (hk : Kept S w w') (hb : r ∉ S) : ItemAt w' r n d i := hk.get h hb

theorem item_stored {w : World} {r : Nat} {n d : ByteArray} {i : Item} (h : ItemAt w r n d i) (j : Item) :
    ItemAt ((((((w.setCell ⟨r, 0, none⟩ (.string j.text)).setCell ⟨r, 1, none⟩ (.int .i64 j.rule)).setCell ⟨r, 2, none⟩ (.bool j.fin)).setCell ⟨r, 3, none⟩ (.string n)).setCell ⟨r, 4, none⟩ (.int .i64 (lineAt d j.pos))).setCell ⟨r, 5, none⟩ (.int .i64 (colAt d j.pos))) r n d j := by
  have := block_setCell (block_setCell (block_setCell (block_setCell (block_setCell (block_setCell h 0 (.string j.text)) 1 (.int .i64 j.rule)) 2 (.bool j.fin)) 3 (.string n)) 4 (.int .i64 (lineAt d j.pos))) 5 (.int .i64 (colAt d j.pos))
  unfold ItemAt
  rw [this]
  simp
theorem six_other {w : World} {b r : Nat} {o : Obj} (h : w.heap[b]? = some o) (hne : b ≠ r) (a0 a1 a2 a3 a4 a5 : Value) :
    ((((((w.setCell ⟨r, 0, none⟩ a0).setCell ⟨r, 1, none⟩ a1).setCell ⟨r, 2, none⟩ a2).setCell ⟨r, 3, none⟩ a3).setCell ⟨r, 4, none⟩ a4).setCell ⟨r, 5, none⟩ a5).heap[b]? = some o := by
  rw [Below.heap_setCell _ _ _ _ hne, Below.heap_setCell _ _ _ _ hne, Below.heap_setCell _ _ _ _ hne, Below.heap_setCell _ _ _ _ hne, Below.heap_setCell _ _ _ _ hne, Below.heap_setCell _ _ _ _ hne]
  exact h

/-- A word of the text is no longer than the text. -/
theorem runF_text (d : ByteArray) (k : Nat) (hd : d.size ≤ 1024) : (runF d k).1.text.size ≤ 1024 := by
  unfold runF
  simp only
  split
  · simp [ByteArray.size]
  · split
    · simp [ByteArray.size]
    · simp; omega

set_option maxHeartbeats 2000000 in
set_option maxRecDepth 100000 in
theorem comment_any (b k : Nat) (n d : ByteArray) (w : World) (hd : d.size ≤ 1024) (hk : k ≤ d.size) (h : ScanAt w b n d k) :
    Calls Tryz.prog 75 #[.pointer (some ⟨b, 0, none⟩)] w fun e w' => e = .returned (itemV n d (commentF d k).1) ∧ ScanAt w' b n d (commentF d k).2 ∧ Kept [b] w w' := by
  have hbw := lt_of_get h
  go_enter Tryz.func75, Tryz.ntmps75
  go_wp2_with fail
  refine (run_any b k n d _ hd hk (by exact h.kept ((Kept.refl [] _).alloc _) (by simp))).mono ?_
  rintro e w1 ⟨rfl, h1, hk1⟩
  have hr1 : w1.heap[w.heap.size]? = some (.cells zeroItem 133 (0, 0)) := hk1.get (heap_alloc_new _ _) (by simp; omega)
  have hkw : Kept [b] w w1 := ((Kept.refl _ _).alloc _).trans hk1
  have hb1 := lt_of_get h1
  have hR1 := lt_of_get hr1
  simp only [itemV]
  go_wp2
  go_loopg [] (d.size - k) (fun g wr => ∃ j, j ≤ d.size ∧ g = d.size - j ∧ Hid (commentF d k = commentF d j) ∧ ScanAt wr b n d (runF d j).2 ∧ ItemAt wr w1.heap.size n d (runF d j).1 ∧ wr.heap[w.heap.size]? = some (.cells zeroItem 133 (0, 0)) ∧ Kept [b] w wr)
  case atStart => exact ⟨k, hk, rfl, rfl, h1.kept ((Kept.refl [] _).alloc _) (by simp), heap_alloc_new _ _, ((Kept.refl [] _).alloc _).get hr1 (by simp), hkw.alloc _⟩
  case round =>
    obtain ⟨j, hj, hg, hs, h2, hi, hr, hkp⟩ := hrel
    have hrl := runF_le d j hj
    have htx := runF_text d j hd
    have L1 : Hid (_ → _ → _ → commentF d j = _) := comment_on d j hj
    have L2 : Hid (_ → _ → _ → commentF d j = _) := comment_nest d j
    have L3 : Hid (_ → _ → commentF d j = _) := comment_open d j
    have L4 : Hid (_ → _ → commentF d j = _) := comment_bad d j
    have L5 : Hid (_ → _ → commentF d j = _) := comment_close d j
    generalize hrr : runF d j = r at *
    obtain ⟨⟨t, u, f, p⟩, z⟩ := r
    have HR : Hid (runF d j = (⟨t, u, f, p⟩, z)) := hrr
    clear hrr
    simp only at h2 hi hrl htx
    obtain ⟨q0, q1, q2, q3, q4, q5⟩ := hi.cells
    have hRw := lt_of_get hr
    have hbr := lt_of_get h2
    have hIw := lt_of_get hi
    cases hw : (u == 0 && !f)
    · cases hf : f
      · have HF : Hid (commentF d j = (⟨t, u, false, p⟩, z)) := by have := L4.out (by simpa [isWordF] using hw) hf; rw [hf] at this; exact this
        subst hf
        have hw' : (u == 0) = false := by simpa using hw
        clear L1 L2 L3 L4 L5
        go_wp2_with fail
        refine (isWord_any t n u (lineAt d p) (colAt d p) _ _).mono ?_
        rintro e w2 ⟨rfl, hk2⟩
        have hi2 := hi.kept hk2 (by simp)
        have h22 := h2.kept hk2 (by simp)
        have hr2 := hk2.get hr (by simp)
        have hkp2 := hkp.trans (hk2.mono (by simp))
        clear q0 q1 q2 q3 q4 q5 hi h2 hr hkp hk2
        obtain ⟨q0, q1, q2, q3, q4, q5⟩ := hi2.cells
        obtain ⟨z0, z1, z2, z3, z4, z5⟩ := cells_zero hr2
        have y := free_of hr2
        go_wp2
        exact bodyPost_ret (v := itemV n d ⟨t, u, false, p⟩) (by simp [results, Tryz.results75, go_sem, itemV, z0, z1, z2, z3, z4, z5]) rfl
          (by rw [hs.out, HF.out]; exact ⟨rfl, six_scan h22 (by omega) _ _ _ _ _ _, six_kept hkp2 (Nat.le_refl _) _ _ _ _ _ _⟩)

      · have HF : Hid (commentF d j = (⟨⟨#[]⟩, 3, false, p⟩, z)) := L3.out (by simpa [isWordF] using hw) hf
        subst hf
        clear L1 L2 L3 L4 L5
        go_wp2_with fail
        refine (isWord_any t n u (lineAt d p) (colAt d p) _ _).mono ?_
        rintro e w2 ⟨rfl, hk2⟩
        have hi2 := hi.kept hk2 (by simp)
        have h22 := h2.kept hk2 (by simp)
        have hr2 := hk2.get hr (by simp)
        have hkp2 := hkp.trans (hk2.mono (by simp))
        clear q0 q1 q2 q3 q4 q5 hi h2 hr hkp hk2
        obtain ⟨q0, q1, q2, q3, q4, q5⟩ := hi2.cells
        obtain ⟨z0, z1, z2, z3, z4, z5⟩ := cells_zero hr2
        have y := free_of hr2
        go_wp2
        exact bodyPost_ret (v := itemV n d ⟨⟨#[]⟩, 3, false, p⟩) (by simp [results, Tryz.results75, go_sem, itemV, z0, z1, z2, z3, z4, z5]) rfl
          (by rw [hs.out, HF.out]; exact ⟨rfl, six_scan h22 (by omega) _ _ _ _ _ _, six_kept hkp2 (Nat.le_refl _) _ _ _ _ _ _⟩)

    · cases hx : (t.toList == [36, 41])
      · cases hy : bracketF t
        · have HF : Hid (commentF d j = commentF d z) := L1.out hw hx hy
          clear L1 L2 L3 L4 L5
          go_wp2_with fail
          refine (isWord_any t n u (lineAt d p) (colAt d p) _ _).mono ?_
          rintro e w2 ⟨rfl, hk2⟩
          have hi2 := hi.kept hk2 (by simp)
          have h22 := h2.kept hk2 (by simp)
          have hr2 := hk2.get hr (by simp)
          have hkp2 := hkp.trans (hk2.mono (by simp))
          clear q0 q1 q2 q3 q4 q5 hi h2 hr hkp hk2
          obtain ⟨q0, q1, q2, q3, q4, q5⟩ := hi2.cells
          go_wp2_with fail
          refine (bracket_any t _ (by omega)).mono ?_
          rintro e w3 ⟨rfl, rfl⟩
          go_wp2_with fail
          refine (run_any b z n d _ hd hrl.2.1 h22).mono ?_
          rintro e w4 ⟨rfl, h4, hk4⟩
          have hi4 := hi2.kept hk4 (by simp; omega)
          have hr4 := hk4.get hr2 (by simp; omega)
          have hkp4 := hkp2.trans hk4
          have yy := free_of hi4
          have hI4 := lt_of_get hi4
          clear q0 q1 q2 q3 q4 q5
          obtain ⟨q0, q1, q2, q3, q4, q5⟩ := hi4.cells
          simp only [itemV]
          go_wp2
          go_roundg (d.size - z)
          case measure => have := hrl.2.2 hw; omega
          case rel => exact ⟨z, hrl.2.1, rfl, hs.out.trans HF.out, six_scan h4 (by omega) _ _ _ _ _ _, item_stored hi4 _, six_other hr4 (by omega) _ _ _ _ _ _, six_kept hkp4 (by omega) _ _ _ _ _ _⟩

        · have HF : Hid (commentF d j = (⟨⟨#[]⟩, 2, false, p⟩, z)) := L2.out hw hx hy
          clear L1 L2 L3 L4 L5
          go_wp2_with fail
          refine (isWord_any t n u (lineAt d p) (colAt d p) _ _).mono ?_
          rintro e w2 ⟨rfl, hk2⟩
          have hi2 := hi.kept hk2 (by simp)
          have h22 := h2.kept hk2 (by simp)
          have hr2 := hk2.get hr (by simp)
          have hkp2 := hkp.trans (hk2.mono (by simp))
          clear q0 q1 q2 q3 q4 q5 hi h2 hr hkp hk2
          obtain ⟨q0, q1, q2, q3, q4, q5⟩ := hi2.cells
          go_wp2_with fail
          refine (bracket_any t _ (by omega)).mono ?_
          rintro e w3 ⟨rfl, rfl⟩
          obtain ⟨z0, z1, z2, z3, z4, z5⟩ := cells_zero hr2
          have y := free_of hr2
          go_wp2
          exact bodyPost_ret (v := itemV n d ⟨⟨#[]⟩, 2, false, p⟩) (by simp [results, Tryz.results75, go_sem, itemV, z0, z1, z2, z3, z4, z5]) rfl
            (by rw [hs.out, HF.out]; exact ⟨rfl, six_scan h22 (by omega) _ _ _ _ _ _, six_kept hkp2 (Nat.le_refl _) _ _ _ _ _ _⟩)

      · have HF : Hid (commentF d j = (⟨t, u, f, p⟩, z)) := L5.out hw hx
        clear L1 L2 L3 L4 L5
        have hf : f = false := by cases f; rfl; simp at hw
        subst hf
        have hw' : (u == 0) = true := by simpa using hw
        go_wp2_with fail
        refine (isWord_any t n u (lineAt d p) (colAt d p) _ _).mono ?_
        rintro e w2 ⟨rfl, hk2⟩
        have hi2 := hi.kept hk2 (by simp)
        have h22 := h2.kept hk2 (by simp)
        have hr2 := hk2.get hr (by simp)
        have hkp2 := hkp.trans (hk2.mono (by simp))
        clear q0 q1 q2 q3 q4 q5 hi h2 hr hkp hk2
        obtain ⟨q0, q1, q2, q3, q4, q5⟩ := hi2.cells
        obtain ⟨z0, z1, z2, z3, z4, z5⟩ := cells_zero hr2
        have y := free_of hr2
        go_wp2
        exact bodyPost_ret (v := itemV n d ⟨t, u, false, p⟩) (by simp [results, Tryz.results75, go_sem, itemV, z0, z1, z2, z3, z4, z5]) rfl
          (by rw [hs.out, HF.out]; exact ⟨rfl, six_scan h22 (by omega) _ _ _ _ _ _, six_kept hkp2 (Nat.le_refl _) _ _ _ _ _ _⟩)

end Go.Proofs.YtcipkfhpcbddiaaGreat

/- Package words: Next. -/
namespace Go.Proofs.YtcipkfhpcbddiaaGreat
open Go.RowKit
attribute [local go_sem] build_rule build_fin build_text

set_option maxHeartbeats 2000000 in
set_option maxRecDepth 100000 in
theorem next_any (b k : Nat) (n d : ByteArray) (w : World) (hd : d.size ≤ 1024) (hk : k ≤ d.size) (h : ScanAt w b n d k) :
    Calls Tryz.prog 60 #[.pointer (some ⟨b, 0, none⟩)] w fun e w' => e = .returned (itemV n d (nextF d k).1) ∧ ScanAt w' b n d (nextF d k).2 ∧ Kept [b] w w' := by
  have hbw := lt_of_get h
  go_enter Tryz.func60, Tryz.ntmps60
  go_wp2_with fail
  refine (run_any b k n d _ hd hk (by exact h.kept ((Kept.refl [] _).alloc _) (by simp))).mono ?_
  rintro e w1 ⟨rfl, h1, hk1⟩
  have hr1 : w1.heap[w.heap.size]? = some (.cells zeroItem 133 (0, 0)) := hk1.get (heap_alloc_new _ _) (by simp; omega)
  have hkw : Kept [b] w w1 := ((Kept.refl _ _).alloc _).trans hk1
  have hb1 := lt_of_get h1
  have hR1 := lt_of_get hr1
  simp only [itemV]
  go_wp2
  go_loopg [4] (d.size - k) (fun g _ wr => ∃ j, j ≤ d.size ∧ g = d.size - j ∧ Hid (nextF d k = nextF d j) ∧ ScanAt wr b n d (runF d j).2 ∧ ItemAt wr w1.heap.size n d (runF d j).1 ∧ wr.heap[w.heap.size]? = some (.cells zeroItem 133 (0, 0)) ∧ Kept [b] w wr)
  case atStart => exact ⟨k, hk, rfl, rfl, h1.kept ((Kept.refl [] _).alloc _) (by simp), heap_alloc_new _ _, ((Kept.refl [] _).alloc _).get hr1 (by simp), hkw.alloc _⟩
  case round =>
    obtain ⟨j, hj, hg, hs, h2, hi, hr, hkp⟩ := hrel
    have hrl := runF_le d j hj
    have htx := runF_text d j hd
    have L1 : Hid (_ → _ → _ → nextF d j = _) := next_on d j hj
    have L2 : Hid (_ → _ → _ → nextF d j = _) := next_broken d j
    have L3 : Hid (_ → nextF d j = _) := next_plain d j
    generalize hrr : runF d j = r at *
    obtain ⟨⟨t, u, f, p⟩, z⟩ := r
    have HR : Hid (runF d j = (⟨t, u, f, p⟩, z)) := hrr
    clear hrr
    simp only at h2 hi hrl htx
    obtain ⟨q0, q1, q2, q3, q4, q5⟩ := hi.cells
    have hRw := lt_of_get hr
    have hbr := lt_of_get h2
    have hIw := lt_of_get hi
    cases hw : (u == 0 && !f)
    · have HF : Hid (nextF d j = (⟨t, u, f, p⟩, z)) := L3.out (Or.inl hw)
      clear L1 L2 L3
      go_wp2_with fail
      refine (isWord_any t n u (lineAt d p) (colAt d p) _ _).mono ?_
      rintro e w2 ⟨rfl, hk2⟩
      have hi2 := hi.kept hk2 (by simp)
      have h22 := h2.kept hk2 (by simp)
      have hr2 := hk2.get hr (by simp)
      have hkp2 := hkp.trans (hk2.mono (by simp))
      clear q0 q1 q2 q3 q4 q5 hi h2 hr hkp hk2
      obtain ⟨q0, q1, q2, q3, q4, q5⟩ := hi2.cells
      obtain ⟨z0, z1, z2, z3, z4, z5⟩ := cells_zero hr2
      have y := free_of hr2
      go_wp2
      exact bodyPost_ret (v := itemV n d ⟨t, u, f, p⟩) (by simp [results, Tryz.results60, go_sem, itemV, z0, z1, z2, z3, z4, z5]) rfl
        (by rw [hs.out, HF.out]; exact ⟨rfl, six_scan h22 (by omega) _ _ _ _ _ _, six_kept hkp2 (Nat.le_refl _) _ _ _ _ _ _⟩)

    · cases hx : (t.toList == [36, 40])
      · have HF : Hid (nextF d j = (⟨t, u, f, p⟩, z)) := L3.out (Or.inr hx)
        clear L1 L2 L3
        go_wp2_with fail
        refine (isWord_any t n u (lineAt d p) (colAt d p) _ _).mono ?_
        rintro e w2 ⟨rfl, hk2⟩
        have hi2 := hi.kept hk2 (by simp)
        have h22 := h2.kept hk2 (by simp)
        have hr2 := hk2.get hr (by simp)
        have hkp2 := hkp.trans (hk2.mono (by simp))
        clear q0 q1 q2 q3 q4 q5 hi h2 hr hkp hk2
        obtain ⟨q0, q1, q2, q3, q4, q5⟩ := hi2.cells
        obtain ⟨z0, z1, z2, z3, z4, z5⟩ := cells_zero hr2
        have y := free_of hr2
        go_wp2
        exact bodyPost_ret (v := itemV n d ⟨t, u, f, p⟩) (by simp [results, Tryz.results60, go_sem, itemV, z0, z1, z2, z3, z4, z5]) rfl
          (by rw [hs.out, HF.out]; exact ⟨rfl, six_scan h22 (by omega) _ _ _ _ _ _, six_kept hkp2 (Nat.le_refl _) _ _ _ _ _ _⟩)

      · have hcl := commentF_le d z hrl.2.1
        have L4 : Hid (_ → nextF d j = nextF d _) := fun h => L1.out hw hx h
        have L5 : Hid (_ → nextF d j = _) := fun h => L2.out hw hx h
        clear L1 L2 L3
        generalize hcc : commentF d z = c at *
        obtain ⟨⟨ct, cu, cf, cp⟩, cz⟩ := c
        have HC : Hid (commentF d z = (⟨ct, cu, cf, cp⟩, cz)) := hcc
        clear hcc
        simp only at hcl
        cases hcw : (cu == 0 && !cf)
        · have HF : Hid (nextF d j = (⟨ct, cu, cf, cp⟩, cz)) := L5.out hcw
          clear L4 L5
          go_wp2_with fail
          refine (isWord_any t n u (lineAt d p) (colAt d p) _ _).mono ?_
          rintro e w2 ⟨rfl, hk2⟩
          have hi2 := hi.kept hk2 (by simp)
          have h22 := h2.kept hk2 (by simp)
          have hr2 := hk2.get hr (by simp)
          have hkp2 := hkp.trans (hk2.mono (by simp))
          clear q0 q1 q2 q3 q4 q5 hi h2 hr hkp hk2
          obtain ⟨q0, q1, q2, q3, q4, q5⟩ := hi2.cells
          go_wp2_with fail
          refine (comment_any b z n d _ hd hrl.2.1 h22).mono ?_
          rintro e w3 ⟨rfl, h3, hk3⟩
          have hi3 := hi2.kept hk3 (by simp; omega)
          have hr3 := hk3.get hr2 (by simp; omega)
          have hkp3 := hkp2.trans hk3
          have hb3 := lt_of_get h3
          have hI3 := lt_of_get hi3
          have hR3 := lt_of_get hr3
          simp only [itemV]
          rw [HC.out]
          simp only
          go_wp2_with fail
          refine (isWord_any ct n cu (lineAt d cp) (colAt d cp) _ _).mono ?_
          rintro e w4 ⟨rfl, hk4⟩
          have hl4 : ItemAt w4 w3.heap.size n d ⟨ct, cu, cf, cp⟩ := hk4.get (heap_alloc_new _ _) (by simp)
          have hi4 := (hi3.kept ((Kept.refl [] _).alloc _) (by simp)).kept hk4 (by simp)
          have h4 := (h3.kept ((Kept.refl [] _).alloc _) (by simp)).kept hk4 (by simp)
          have hr4 := hk4.get (((Kept.refl [] _).alloc _).get hr3 (by simp)) (by simp)
          have hkp4 := (hkp3.alloc _).trans (hk4.mono (by simp))
          rw [HC.out] at h4
          simp only at h4
          have hb4 := lt_of_get h4
          have hI4 := lt_of_get hi4
          have hR4 := lt_of_get hr4
          clear q0 q1 q2 q3 q4 q5 hi2 hr2 hkp2 hk4 hi3 hr3 hkp3 hk3 h3 h22
          obtain ⟨p0, p1, p2, p3, p4, p5⟩ := hl4.cells
          obtain ⟨z0, z1, z2, z3, z4, z5⟩ := cells_zero hr4
          have y := free_of hr4
          go_wp2
          exact bodyPost_ret (v := itemV n d ⟨ct, cu, cf, cp⟩) (by simp [results, Tryz.results60, go_sem, itemV, z0, z1, z2, z3, z4, z5]) rfl
            (by rw [hs.out, HF.out]; exact ⟨rfl, six_scan h4 (by omega) _ _ _ _ _ _, six_kept hkp4 (Nat.le_refl _) _ _ _ _ _ _⟩)

        · have HF : Hid (nextF d j = nextF d cz) := L4.out hcw
          clear L4 L5
          go_wp2_with fail
          refine (isWord_any t n u (lineAt d p) (colAt d p) _ _).mono ?_
          rintro e w2 ⟨rfl, hk2⟩
          have hi2 := hi.kept hk2 (by simp)
          have h22 := h2.kept hk2 (by simp)
          have hr2 := hk2.get hr (by simp)
          have hkp2 := hkp.trans (hk2.mono (by simp))
          clear q0 q1 q2 q3 q4 q5 hi h2 hr hkp hk2
          obtain ⟨q0, q1, q2, q3, q4, q5⟩ := hi2.cells
          go_wp2_with fail
          refine (comment_any b z n d _ hd hrl.2.1 h22).mono ?_
          rintro e w3 ⟨rfl, h3, hk3⟩
          have hi3 := hi2.kept hk3 (by simp; omega)
          have hr3 := hk3.get hr2 (by simp; omega)
          have hkp3 := hkp2.trans hk3
          have hb3 := lt_of_get h3
          have hI3 := lt_of_get hi3
          have hR3 := lt_of_get hr3
          simp only [itemV]
          rw [HC.out]
          simp only
          go_wp2_with fail
          refine (isWord_any ct n cu (lineAt d cp) (colAt d cp) _ _).mono ?_
          rintro e w4 ⟨rfl, hk4⟩
          have hl4 : ItemAt w4 w3.heap.size n d ⟨ct, cu, cf, cp⟩ := hk4.get (heap_alloc_new _ _) (by simp)
          have hi4 := (hi3.kept ((Kept.refl [] _).alloc _) (by simp)).kept hk4 (by simp)
          have h4 := (h3.kept ((Kept.refl [] _).alloc _) (by simp)).kept hk4 (by simp)
          have hr4 := hk4.get (((Kept.refl [] _).alloc _).get hr3 (by simp)) (by simp)
          have hkp4 := (hkp3.alloc _).trans (hk4.mono (by simp))
          rw [HC.out] at h4
          simp only at h4
          have hb4 := lt_of_get h4
          have hI4 := lt_of_get hi4
          have hR4 := lt_of_get hr4
          clear q0 q1 q2 q3 q4 q5 hi2 hr2 hkp2 hk4 hi3 hr3 hkp3 hk3 h3 h22
          obtain ⟨p0, p1, p2, p3, p4, p5⟩ := hl4.cells
          go_wp2_with fail
          refine (run_any b cz n d _ hd hcl.2 h4).mono ?_
          rintro e w5 ⟨rfl, h5, hk5⟩
          have hi5 := hi4.kept hk5 (by simp; omega)
          have hr5 := hk5.get hr4 (by simp; omega)
          have hkp5 := hkp4.trans hk5
          have yy := free_of hi5
          have hI5 := lt_of_get hi5
          obtain ⟨q0, q1, q2, q3, q4, q5⟩ := hi5.cells
          simp only [itemV]
          go_wp2
          go_roundg (d.size - cz)
          case measure => have := hrl.2.2 hw; omega
          case rel => exact ⟨cz, hcl.2, rfl, hs.out.trans HF.out, six_scan h5 (by omega) _ _ _ _ _ _, item_stored hi5 _, six_other hr5 (by omega) _ _ _ _ _ _, six_kept hkp5 (by omega) _ _ _ _ _ _⟩

end Go.Proofs.YtcipkfhpcbddiaaGreat

/- Package table: names, the files of a table in memory, Find. -/
namespace Go.Proofs.YtcipkfhpcbddiaaGreat
open Go.RowKit

def nameB (n : Int) : Bool := decide (33 ≤ n) && decide (n ≤ 126) && !(n == 36)
/-- May a file bear this name? -/
def isNameF (s : ByteArray) : Bool := decide (1 ≤ s.size) && decide (s.size ≤ 8) && (List.range s.size).all (fun i => nameB (byteAt s i))
def checkF (n d : ByteArray) : Int := if isNameF n = false then 2 else if 1024 < d.size then 3 else 0

theorem isName_short (s : ByteArray) (h : s.size < 1 ∨ 8 < s.size) : isNameF s = false := by
  unfold isNameF
  rcases h with h | h
  · simp [show ¬ 1 ≤ s.size by omega]
  · simp [show ¬ s.size ≤ 8 by omega]
theorem isName_bad (s : ByteArray) (i : Nat) (h : i < s.size) (hb : nameB (byteAt s i) = false) : isNameF s = false := by
  unfold isNameF
  have : (List.range s.size).all (fun i => nameB (byteAt s i)) = false := by
    rw [List.all_eq_false]; exact ⟨i, by simp [h], by simp [hb]⟩
  simp [this]
theorem isName_good (s : ByteArray) (h1 : 1 ≤ s.size) (h2 : s.size ≤ 8) (h : ∀ i, i < s.size → nameB (byteAt s i) = true) : isNameF s = true := by
  unfold isNameF
  have : (List.range s.size).all (fun i => nameB (byteAt s i)) = true := by
    rw [List.all_eq_true]; intro i hi; exact h i (by simpa using hi)
  simp [this, h1, h2]

set_option maxHeartbeats 400000 in
theorem isName_any (s : ByteArray) (w : World) (hs : s.size ≤ 1073741824) :
    Calls Tryz.prog 49 #[.string s] w fun e w' => e = .returned (.bool (isNameF s)) ∧ w' = w := by
  by_cases h1 : 1 ≤ s.size
  · by_cases h2 : s.size ≤ 8
    · go_enter Tryz.func49, Tryz.ntmps49
      go_wp2
      go_loopg [3] s.size (fun g i wr => ∃ k : Nat, k ≤ s.size ∧ g = s.size - k ∧ i = .int .i64 k ∧ Hid (∀ i, i < k → nameB (byteAt s i) = true) ∧ wr = w)
      case atStart => exact ⟨0, by omega, by omega, rfl, fun i h => by omega, rfl⟩
      case round =>
        obtain ⟨k, hk, hg, rfl, hall, rfl⟩ := hrel
        by_cases hlt : k < s.size
        · have hq : ∀ b : Bool, nameB (s[k].toNat : Int) = b → nameB (byteAt s k) = b := fun b h => by rw [byteAt_of s k hlt]; exact h
          have HQ : Hid (∀ b : Bool, nameB (s[k].toNat : Int) = b → nameB (byteAt s k) = b) := hq
          clear hq
          go_wp2
          all_goals first
            | (go_ret; refine ⟨ret_bool ?_, rfl⟩; rw [isName_bad s k hlt (HQ.out false ?_)]; first | (simp [nameB]; omega) | (simp [nameB]; simp at *; omega))
            | (go_roundg (s.size - (k + 1))
               case measure => omega
               case rel =>
                 refine ⟨k + 1, by omega, rfl, by go_num, ?_, rfl⟩
                 intro i hi
                 by_cases e : i = k
                 · subst e; exact HQ.out true (by simp [nameB]; simp at *; omega)
                 · exact hall.out i (by omega))
        · go_wp2
          go_ret
          exact ⟨ret_bool (isName_good s h1 h2 (fun i hi => hall.out i (by omega))).symm, rfl⟩
    · go_enter Tryz.func49, Tryz.ntmps49
      go_wp2
      all_goals go_ret
      all_goals exact ⟨ret_bool (isName_short s (Or.inr (by omega))).symm, rfl⟩
  · go_enter Tryz.func49, Tryz.ntmps49
    go_wp2
    all_goals go_ret
    all_goals exact ⟨ret_bool (isName_short s (Or.inl (by omega))).symm, rfl⟩

set_option maxHeartbeats 400000 in
theorem check_any (n d : ByteArray) (w : World) (hn : n.size ≤ 1073741824) (hd : d.size ≤ 4294967296) :
    Calls Tryz.prog 42 #[.string n, .string d] w fun e w' => e = .returned (.int .i64 (checkF n d)) ∧ w' = w := by
  cases hb : isNameF n
  · go_enter Tryz.func42, Tryz.ntmps42
    go_wp2_with fail
    refine (isName_any n _ hn).mono ?_
    rintro e w1 ⟨rfl, rfl⟩
    go_wp2
    go_ret
    exact ⟨ret_int (by simp [checkF, hb]), rfl⟩
  · by_cases hl : 1024 < d.size
    · go_enter Tryz.func42, Tryz.ntmps42
      go_wp2_with fail
      refine (isName_any n _ hn).mono ?_
      rintro e w1 ⟨rfl, rfl⟩
      go_wp2
      go_ret
      exact ⟨ret_int (by simp [checkF, hb, hl]), rfl⟩
    · go_enter Tryz.func42, Tryz.ntmps42
      go_wp2_with fail
      refine (isName_any n _ hn).mono ?_
      rintro e w1 ⟨rfl, rfl⟩
      go_wp2
      go_ret
      exact ⟨ret_int (by simp [checkF, hb, hl]), rfl⟩

/-- The files of a table. -/
def fileNm (fs : List (ByteArray × ByteArray)) (i : Nat) : ByteArray := (fs.getD i (⟨#[]⟩, ⟨#[]⟩)).1
def fileDt (fs : List (ByteArray × ByteArray)) (i : Nat) : ByteArray := (fs.getD i (⟨#[]⟩, ⟨#[]⟩)).2
def tabList (fs : List (ByteArray × ByteArray)) : List Value :=
  [.string (fileNm fs 0), .string (fileDt fs 0), .string (fileNm fs 1), .string (fileDt fs 1), .string (fileNm fs 2), .string (fileDt fs 2), .string (fileNm fs 3), .string (fileDt fs 3), .int .i64 fs.length]
/-- A table at the head of block v (of type t), with more cells behind it. -/
def TabAt (w : World) (v t : Nat) (fs : List (ByteArray × ByteArray)) (more : List Value) : Prop := w.heap[v]? = some (.cells (tabList fs ++ more).toArray t (0, 0)) ∧ fs.length ≤ 4

theorem TabAt.name {w : World} {v t : Nat} {fs : List (ByteArray × ByteArray)} {more : List Value} (h : TabAt w v t fs more) (i : Nat) (hi : i < 4) :
    w.cell? ⟨v, i * 2, none⟩ = some (.string (fileNm fs i)) ∧ w.cell? ⟨v, i * 2 + 1, none⟩ = some (.string (fileDt fs i)) := by
  constructor <;> rw [cell_of h.1]
  · match i, hi with
    | 0, _ => rfl
    | 1, _ => rfl
    | 2, _ => rfl
    | 3, _ => rfl
  · match i, hi with
    | 0, _ => rfl
    | 1, _ => rfl
    | 2, _ => rfl
    | 3, _ => rfl
theorem TabAt.count {w : World} {v t : Nat} {fs : List (ByteArray × ByteArray)} {more : List Value} (h : TabAt w v t fs more) :
    w.cell? ⟨v, 8, none⟩ = some (.int .i64 fs.length) := by
  rw [cell_of h.1]; rfl

def findFrom (n : ByteArray) : List (ByteArray × ByteArray) → Nat → Int
  | [], _ => -1
  | f :: r, i => if (f.1.toList == n.toList) = true then i else findFrom n r (i + 1)
/-- The place of the first file of that name, or -1. -/
def findF (fs : List (ByteArray × ByteArray)) (n : ByteArray) : Int := findFrom n fs 0

theorem drop_at {α : Type} (l : List α) (k : Nat) (h : k < l.length) : l.drop k = l[k] :: l.drop (k + 1) := List.drop_eq_getElem_cons h
theorem fileNm_at (fs : List (ByteArray × ByteArray)) (k : Nat) (h : k < fs.length) : fileNm fs k = fs[k].1 := by
  unfold fileNm; rw [List.getD_eq_getElem?_getD, List.getElem?_eq_getElem h]; rfl
theorem find_hit (fs : List (ByteArray × ByteArray)) (n : ByteArray) (k : Nat) (h : k < fs.length) (he : findF fs n = findFrom n (fs.drop k) k) (hb : ((fileNm fs k).toList == n.toList) = true) : findF fs n = k := by
  rw [he, drop_at _ _ h, findFrom, ← fileNm_at fs k h, if_pos hb]
theorem find_miss (fs : List (ByteArray × ByteArray)) (n : ByteArray) (k : Nat) (h : k < fs.length) (he : findF fs n = findFrom n (fs.drop k) k) (hb : ((fileNm fs k).toList == n.toList) = false) : findF fs n = findFrom n (fs.drop (k + 1)) (k + 1) := by
  rw [he, drop_at _ _ h, findFrom, ← fileNm_at fs k h, if_neg (by simp [hb])]
theorem find_over (fs : List (ByteArray × ByteArray)) (n : ByteArray) (k : Nat) (h : ¬ k < fs.length) (he : findF fs n = findFrom n (fs.drop k) k) : findF fs n = -1 := by
  rw [he, List.drop_of_length_le (by omega), findFrom]

set_option maxHeartbeats 400000 in
theorem find_any (v t : Nat) (fs : List (ByteArray × ByteArray)) (more : List Value) (n : ByteArray) (w : World) (h : TabAt w v t fs more) :
    Calls Tryz.prog 34 #[.pointer (some ⟨v, 0, none⟩), .string n] w fun e w' => e = .returned (.int .i64 (findF fs n)) ∧ w' = w := by
  have hcnt := h.count
  have hlen := h.2
  go_enter Tryz.func34, Tryz.ntmps34
  go_wp2
  go_loopg [5] fs.length (fun g i wr => ∃ k : Nat, k ≤ fs.length ∧ g = fs.length - k ∧ i = .int .i64 k ∧ Hid (findF fs n = findFrom n (fs.drop k) k) ∧ wr = w)
  case atStart => exact ⟨0, by omega, by omega, rfl, rfl, rfl⟩
  case round =>
    obtain ⟨k, hk, hg, rfl, hall, rfl⟩ := hrel
    by_cases hlt : k < fs.length
    · obtain ⟨q0, q1⟩ := h.name k (by omega)
      cases hb : ((fileNm fs k).toList == n.toList)
      · have HM : Hid (findF fs n = findFrom n (fs.drop (k + 1)) (k + 1)) := find_miss fs n k hlt hall.out hb
        clear hall
        go_wp2
        go_roundg (fs.length - (k + 1))
        case measure => omega
        case rel => exact ⟨k + 1, by omega, rfl, by go_num, HM, rfl⟩
      · have HM : Hid (findF fs n = k) := find_hit fs n k hlt hall.out hb
        clear hall
        go_wp2
        go_ret
        exact ⟨ret_int HM.out.symm, rfl⟩
    · have HM : Hid (findF fs n = -1) := find_over fs n k hlt hall.out
      clear hall
      go_wp2
      go_ret
      exact ⟨ret_int HM.out.symm, rfl⟩

end Go.Proofs.YtcipkfhpcbddiaaGreat

/- Package table: File, add, Put. -/
namespace Go.Proofs.YtcipkfhpcbddiaaGreat
open Go.RowKit

theorem TabAt.free {w : World} {v t : Nat} {fs : List (ByteArray × ByteArray)} {more : List Value} (h : TabAt w v t fs more) (i : Nat) : w.frozen? ⟨v, i, none⟩ = false := free_of h.1 i
theorem TabAt.kept {w w' : World} {v t : Nat} {fs : List (ByteArray × ByteArray)} {more : List Value} {S : List Nat} (h : TabAt w v t fs more) (hk : Kept S w w') (hv : v ∉ S) : TabAt w' v t fs more :=
  ⟨hk.get h.1 hv, h.2⟩
theorem TabAt.lt {w : World} {v t : Nat} {fs : List (ByteArray × ByteArray)} {more : List Value} (h : TabAt w v t fs more) : v < w.heap.size := lt_of_get h.1

set_option maxHeartbeats 400000 in
theorem file_any (v t k : Nat) (fs : List (ByteArray × ByteArray)) (more : List Value) (w : World) (h : TabAt w v t fs more) (hk : k < fs.length) :
    Calls Tryz.prog 59 #[.pointer (some ⟨v, 0, none⟩), .int .i64 k] w fun e w' => e = .returned (.agg #[.string (fileNm fs k), .string (fileDt fs k)]) ∧ Kept [] w w' := by
  have hcnt := h.count
  have hlen := h.2
  have hlt := h.lt
  obtain ⟨q0, q1⟩ := h.name k (by omega)
  go_enter Tryz.func59, Tryz.ntmps59
  go_wp2
  exact bodyPost_ret (v := .agg #[.string (fileNm fs k), .string (fileDt fs k)]) (by simp [results, Tryz.results59, go_sem]) rfl ⟨rfl, (Kept.refl _ _).alloc _⟩

theorem tab_add (fs : List (ByteArray × ByteArray)) (more : List Value) (n d : ByteArray) (h : fs.length < 4) :
    (((tabList fs ++ more).set (fs.length * 2) (.string n)).set (fs.length * 2 + 1) (.string d)).set 8 (.int .i64 ((fs.length : Int) + 1)) = tabList (fs ++ [(n, d)]) ++ more := by
  match fs, h with
  | [], _ => rfl
  | [a], _ => rfl
  | [a, b], _ => rfl
  | [a, b, c], _ => rfl

theorem tab_set (fs : List (ByteArray × ByteArray)) (more : List Value) (n d : ByteArray) (k : Nat) (hk : k < fs.length) (h : fs.length ≤ 4) :
    ((tabList fs ++ more).set (k * 2) (.string n)).set (k * 2 + 1) (.string d) = tabList (fs.set k (n, d)) ++ more := by
  match fs, h, k, hk with
  | [a], _, 0, _ => rfl
  | [a, b], _, 0, _ => rfl
  | [a, b], _, 1, _ => rfl
  | [a, b, c], _, 0, _ => rfl
  | [a, b, c], _, 1, _ => rfl
  | [a, b, c], _, 2, _ => rfl
  | [a, b, c, e], _, 0, _ => rfl
  | [a, b, c, e], _, 1, _ => rfl
  | [a, b, c, e], _, 2, _ => rfl
  | [a, b, c, e], _, 3, _ => rfl

theorem TabAt.added {w : World} {v t : Nat} {fs : List (ByteArray × ByteArray)} {more : List Value} (h : TabAt w v t fs more) (n d : ByteArray) (hk : fs.length < 4) :
    TabAt (((w.setCell ⟨v, fs.length * 2, none⟩ (.string n)).setCell ⟨v, fs.length * 2 + 1, none⟩ (.string d)).setCell ⟨v, 8, none⟩ (.int .i64 ((fs.length : Int) + 1))) v t (fs ++ [(n, d)]) more := by
  have h4 := block_setCell (block_setCell (block_setCell h.1 (fs.length * 2) (.string n)) (fs.length * 2 + 1) (.string d)) 8 (.int .i64 ((fs.length : Int) + 1))
  refine ⟨?_, by simp; omega⟩
  rw [h4]
  simp only [List.setIfInBounds_toArray, tab_add fs more n d hk]

theorem TabAt.turned {w : World} {v t : Nat} {fs : List (ByteArray × ByteArray)} {more : List Value} (h : TabAt w v t fs more) (n d : ByteArray) (k : Nat) (hk : k < fs.length) :
    TabAt ((w.setCell ⟨v, k * 2, none⟩ (.string n)).setCell ⟨v, k * 2 + 1, none⟩ (.string d)) v t (fs.set k (n, d)) more := by
  have h4 := block_setCell (block_setCell h.1 (k * 2) (.string n)) (k * 2 + 1) (.string d)
  refine ⟨?_, by simpa using h.2⟩
  rw [h4]
  simp only [List.setIfInBounds_toArray, tab_set fs more n d k hk h.2]

set_option maxHeartbeats 400000 in
theorem add_any (v t : Nat) (n d : ByteArray) (fs : List (ByteArray × ByteArray)) (more : List Value) (w : World) (h : TabAt w v t fs more) (hk : fs.length < 4) :
    Calls Tryz.prog 43 #[.pointer (some ⟨v, 0, none⟩), .agg #[.string n, .string d]] w fun e w' => e = .returned (.tuple #[]) ∧ TabAt w' v t (fs ++ [(n, d)]) more ∧ Kept [v] w w' := by
  have hcnt := h.count
  have hfr := h.free
  have hlt := h.lt
  obtain ⟨q0, q1⟩ := h.name fs.length (by omega)
  go_enter Tryz.func43, Tryz.ntmps43
  go_wp2
  go_region
  all_goals go_wp2
  all_goals go_end0
  exact ⟨rfl, (h.added n d hk).kept ((Kept.refl [] _).alloc _ |>.drew) (by simp), ((((Kept.refl _ _).setCell (Or.inl (by simp)) _).setCell (Or.inl (by simp)) _).setCell (Or.inl (by simp)) _).alloc _ |>.drew⟩

/-- What Put answers, and the files behind it. -/
def putF (fs : List (ByteArray × ByteArray)) (n d : ByteArray) : Int × List (ByteArray × ByteArray) :=
  if checkF n d ≠ 0 then (checkF n d, fs)
  else if 0 ≤ findF fs n then (0, fs.set (findF fs n).toNat (n, d))
  else if 4 ≤ fs.length then (1, fs) else (0, fs ++ [(n, d)])

theorem findFrom_le (n : ByteArray) (fs : List (ByteArray × ByteArray)) (i : Nat) : findFrom n fs i = -1 ∨ ((i : Int) ≤ findFrom n fs i ∧ findFrom n fs i < i + fs.length) := by
  induction fs generalizing i with
  | nil => exact Or.inl rfl
  | cons f r ih =>
    rw [findFrom]; split
    · exact Or.inr ⟨by omega, by simp; omega⟩
    · rcases ih (i + 1) with h | h
      · exact Or.inl h
      · exact Or.inr ⟨by omega, by simp; omega⟩
theorem findF_le (n : ByteArray) (fs : List (ByteArray × ByteArray)) : findF fs n = -1 ∨ ∃ k : Nat, k < fs.length ∧ findF fs n = k := by
  rcases findFrom_le n fs 0 with h | h
  · exact Or.inl h
  · refine Or.inr ⟨(findF fs n).toNat, ?_, ?_⟩ <;> (unfold findF; omega)

set_option maxHeartbeats 800000 in
theorem put_any (v t : Nat) (n d : ByteArray) (fs : List (ByteArray × ByteArray)) (more : List Value) (w : World) (h : TabAt w v t fs more) (hn : n.size ≤ 1073741824) (hd : d.size ≤ 4294967296) :
    Calls Tryz.prog 32 #[.pointer (some ⟨v, 0, none⟩), .string n, .string d] w fun e w' => e = .returned (.int .i64 (putF fs n d).1) ∧ TabAt w' v t (putF fs n d).2 more ∧ Kept [v] w w' := by
  have hcnt := h.count
  have hlt := h.lt
  have hlen := h.2
  by_cases hc : checkF n d = 0
  · rcases findF_le n fs with hf | ⟨k, hk, hf⟩
    · by_cases hl : 4 ≤ fs.length
      · have HP : Hid (putF fs n d = (1, fs)) := by show putF fs n d = _; simp [putF, hc, hf, hl]
        have HC : Hid (checkF n d = 0) := hc
        have HFF : Hid (findF fs n = -1) := hf
        clear hc hf
        go_enter Tryz.func32, Tryz.ntmps32
        go_wp2_with fail
        refine (check_any n d _ hn hd).mono ?_
        rintro e w1 ⟨rfl, rfl⟩
        rw [HC.out]
        go_wp2_with fail
        refine (find_any v t fs more n _ (by exact h.kept ((Kept.refl [] _).alloc _) (by simp))).mono ?_
        rintro e w1 ⟨rfl, rfl⟩
        rw [HFF.out]
        go_wp2
        go_ret
        exact ⟨ret_int (by rw [HP.out]), by rw [HP.out]; exact h.kept ((Kept.refl [] _).alloc _) (by simp), (Kept.refl _ _).alloc _⟩
      · have HP : Hid (putF fs n d = (0, fs ++ [(n, d)])) := by show putF fs n d = _; simp [putF, hc, hf, hl]
        have HC : Hid (checkF n d = 0) := hc
        have HFF : Hid (findF fs n = -1) := hf
        clear hc hf
        go_enter Tryz.func32, Tryz.ntmps32
        go_wp2_with fail
        refine (check_any n d _ hn hd).mono ?_
        rintro e w1 ⟨rfl, rfl⟩
        rw [HC.out]
        go_wp2_with fail
        refine (find_any v t fs more n _ (by exact h.kept ((Kept.refl [] _).alloc _) (by simp))).mono ?_
        rintro e w1 ⟨rfl, rfl⟩
        rw [HFF.out]
        go_wp2_with fail
        refine (add_any v t n d fs more _ (by exact h.kept ((Kept.refl [] _).alloc _) (by simp)) (by omega)).mono ?_
        rintro e w2 ⟨rfl, h2, hk2⟩
        go_wp2
        go_ret
        exact ⟨ret_int (by rw [HP.out]), by rw [HP.out]; exact h2, ((Kept.refl _ _).alloc _).trans hk2⟩
    · have HP : Hid (putF fs n d = (0, fs.set k (n, d))) := by show putF fs n d = _; simp [putF, hc, hf]
      have HC : Hid (checkF n d = 0) := hc
      have HFF : Hid (findF fs n = k) := hf
      obtain ⟨q0, q1⟩ := h.name k (by omega)
      have hfr := h.free
      clear hc hf
      go_enter Tryz.func32, Tryz.ntmps32
      go_wp2_with fail
      refine (check_any n d _ hn hd).mono ?_
      rintro e w1 ⟨rfl, rfl⟩
      rw [HC.out]
      go_wp2_with fail
      refine (find_any v t fs more n _ (by exact h.kept ((Kept.refl [] _).alloc _) (by simp))).mono ?_
      rintro e w1 ⟨rfl, rfl⟩
      rw [HFF.out]
      go_wp2_with fail
      go_region
      all_goals go_wp2
      all_goals go_ret
      exact ⟨ret_int (by rw [HP.out]), by rw [HP.out]; exact (h.turned n d k hk).kept ((Kept.refl [] _).alloc _ |>.drew) (by simp), (((Kept.refl _ _).setCell (Or.inl (by simp)) _).setCell (Or.inl (by simp)) _).alloc _ |>.drew⟩
  · have HP : Hid (putF fs n d = (checkF n d, fs)) := by show putF fs n d = _; simp [putF, hc]
    have hc' : (checkF n d != 0) = true := by simp [hc]
    clear hc
    go_enter Tryz.func32, Tryz.ntmps32
    go_wp2_with fail
    refine (check_any n d _ hn hd).mono ?_
    rintro e w1 ⟨rfl, rfl⟩
    go_wp2
    go_ret
    exact ⟨ret_int (by rw [HP.out]), by rw [HP.out]; exact h, Kept.refl _ _⟩

end Go.Proofs.YtcipkfhpcbddiaaGreat

/- Several rows of one's own: slices that grow by append, no two in one array. -/
namespace Go.Proofs.YtcipkfhpcbddiaaGreat
open Go.RowKit

/-- Where a slice lies: its address, its capacity. -/
structure Hd where
  ao : Option Addr
  cap : Nat
def Hd.blk (h : Hd) : Option Nat := h.ao.map (·.block)
/-- What a slice holds: its elements' type, the cells of one, how many, all cells. -/
structure Row where
  e : TypeId
  size : Nat
  n : Nat
  xs : List Value
def Owns (w : World) (h : Hd) (r : Row) : Prop := w.ownsRow 0 r.e r.size (.slice h.ao r.n h.cap) r.n r.xs

theorem own_blk (h : Hd) (n : Nat) : (Value.slice h.ao n h.cap).ownBlock = h.blk := by
  unfold Hd.blk; cases h.ao <;> rfl

theorem Owns.lt {w : World} {h : Hd} {r : Row} (o : Owns w h r) {k : Nat} (hk : h.blk = some k) : k < w.heap.size :=
  (World.ownsRow.lt (h := o) k (by rw [own_blk]; exact hk)).2

theorem Owns.moved {w w' : World} {h : Hd} {r : Row} (o : Owns w h r) (hw : ∀ k, h.blk = some k → w'.heap[k]? = w.heap[k]?) : Owns w' h r := by
  refine ⟨o.1, ?_⟩
  rcases o.2 with hn | ⟨g, cap, cur, hv, hb, hh, h1, h2, h3, h4⟩
  · exact Or.inl hn
  · refine Or.inr ⟨g, cap, cur, hv, hb, ?_, h1, h2, h3, h4⟩
    rw [hw g (by unfold Hd.blk; injection hv with hv; rw [hv]; rfl)]; exact hh

/-- The two shapes of an owned slice. -/
theorem Owns.ways {w : World} {h : Hd} {r : Row} (o : Owns w h r) :
    (h = ⟨none, 0⟩ ∧ r.n = 0 ∧ r.xs = []) ∨ ∃ g cur, h.ao = some ⟨g, 0, none⟩ ∧ w.heap[g]? = some (.cells cur r.e (0, 0)) ∧ r.n ≤ h.cap ∧ h.cap ≤ maxLen ∧ cur.size = h.cap * r.size ∧ cur.toList.take (r.n * r.size) = r.xs := by
  rcases o.2 with ⟨hv, hn⟩ | ⟨g, cap, cur, hv, hb, hh, h1, h2, h3, h4⟩
  · left
    injection hv with a1 a2 a3
    refine ⟨by cases h; simp_all, hn, List.eq_nil_of_length_eq_zero (by rw [o.1, hn]; simp)⟩
  · right
    injection hv with a1 a2 a3
    subst a3
    exact ⟨g, cur, a1, hh, h1, h2, h3, h4⟩

theorem addr_add (g j : Nat) : (⟨g, 0, none⟩ : Addr).add j = ⟨g, j, none⟩ := by
  simp only [Addr.add]
  split
  · next h => subst h; rfl
  · simp

theorem Owns.cell {w : World} {h : Hd} {r : Row} (o : Owns w h r) {g : Nat} (hg : h.ao = some ⟨g, 0, none⟩) (j : Nat) (u : Value) (hj : r.xs[j]? = some u) : w.cell? ⟨g, j, none⟩ = some u := by
  have := o.cells (g := g) (by rw [own_blk]; unfold Hd.blk; rw [hg]; rfl) j u hj
  rw [addr_add] at this; exact this

/-- APPEND onto an owned slice: what is owned then, in the same array or in a new one. -/
theorem wpList_append_row {P : Program} (w : World) {ops : Array Oper} {rest : List Oper} {o : Oper} {a : Act} {Q : Exit → Act → World → Prop}
    (hg : o.guard = none) (s x : Operand) (t : TypeId) (hop : o.op = Op.call { callee := Callee.builtin Builtin.append, args := #[s, x], argTypes := #[t, t] })
    (i : TypeInfo) (z : Value) (bytes : Nat) (h : Hd) (r : Row) (h1 : P.underlying t = some (.slice r.e)) (h2 : P.info? r.e = some i) (h3 : i.zero = some z) (h4 : i.size = r.size) (h5 : i.bytes = bytes) (h6 : z.cells.size = r.size) (h7 : 0 < r.size)
    (hs : a.eval s = .slice h.ao r.n h.cap) (hown : Owns w h r)
    (ad : Addr) (m c : Nat) (news : List Value) (hx : a.eval x = .slice (some ad) m c) (hn : news.length = m * r.size) (hc : ∀ j u, news[j]? = some u → w.cell? (ad.add j) = some u) (h1c : ∀ u ∈ news, u.oneCell' = true)
    (hm : 0 < m) (b1 : r.n + m ≤ maxLen) (b2 : (r.n + m) * bytes ≤ 140737488355328)
    (hK : ∀ g cap' w', Owns w' ⟨some ⟨g, 0, none⟩, cap'⟩ ⟨r.e, r.size, r.n + m, r.xs ++ news⟩ → w.grownBy w' h.blk → (h.blk = some g ∨ w.heap.size ≤ g) → wpList P ops Q rest (a.put o.dst (.slice (some ⟨g, 0, none⟩) (r.n + m) cap')) w') :
    wpList P ops Q (o :: rest) a w := by
  rcases hown.ways with ⟨e1, e2, e3⟩ | ⟨g, cur, e1, e2, e3, e4, e5, e6⟩
  · refine wpList_append_grows w hg s x t hop r.e i z r.size bytes h1 h2 h3 h4 h5 h6 h7 none 0 0 [] (by rw [hs, e1, e2]) (fun _ => ⟨rfl, rfl⟩) (by simp) (by intro b hb; cases hb) ad m c news hx hn hc h1c (by omega) (by omega) (by rw [e2] at b2; exact b2) ?_
    intro v' w' hw hgr
    rcases hw.2 with ⟨_, q⟩ | ⟨g, cap', cur, q1, q2, q3, q4, q5, q6, q7⟩
    · omega
    · have := hK g cap' w' ⟨by have := hw.1; simpa [e3, e2] using this, Or.inr ⟨g, cap', cur, by simp, Nat.zero_le _, q3, by simpa [e2] using q4, q5, q6, by simpa [e2, e3] using q7⟩⟩ (by rw [e1]; exact hgr) (Or.inr q2)
      rw [q1]; simpa [e2] using this
  · by_cases hf : r.n + m ≤ h.cap
    · refine wpList_append_fits w hg s x t hop 0 r.e i r.size h1 h2 h4 g r.n h.cap r.xs (by rw [hs, e1]) (by have := hown; unfold Owns at this; rw [e1] at this; exact this) ad m c news hx hn hc h1c hf ?_
      intro w' hw hgr
      exact hK g h.cap w' hw (by unfold Hd.blk; rw [e1]; exact hgr) (Or.inl (by unfold Hd.blk; rw [e1]; rfl))
    · refine wpList_append_grows w hg s x t hop r.e i z r.size bytes h1 h2 h3 h4 h5 h6 h7 (some ⟨g, 0, none⟩) r.n h.cap r.xs (by rw [hs, e1]) (by intro hh; cases hh) hown.1 (by intro b hb j u hj; cases hb; rw [addr_add]; exact hown.cell e1 j u hj) ad m c news hx hn hc h1c (by omega) b1 b2 ?_
      intro v' w' hw hgr
      rcases hw.2 with ⟨_, q⟩ | ⟨g', cap', cur', q1, q2, q3, q4, q5, q6, q7⟩
      · omega
      · have := hK g' cap' w' ⟨hw.1, Or.inr ⟨g', cap', cur', rfl, Nat.zero_le _, q3, q4, q5, q6, q7⟩⟩ ⟨hgr.os, hgr.tape, hgr.output, hgr.size, fun k hk _ => hgr.block k hk (by simp)⟩ (Or.inr q2)
        rw [q1]; exact this

end Go.Proofs.YtcipkfhpcbddiaaGreat

/- Rows of one's own, made and filled: 'make' with a length, 'copy' of a whole row. Elements of any size. -/
namespace Go.Proofs.YtcipkfhpcbddiaaGreat
open Go.RowKit

theorem run_copy_wide {P : Program} (w : World) (dT sT ty elem : TypeId) (g cap size : Nat) (h : Hd) (r : Row) (cur : Array Value) (t : TypeId)
    (hu : P.underlying dT = some (.slice elem)) (hs : (P.info? elem).map (·.size) = some size) (hr : r.size = size) (hg : w.heap[g]? = some (.cells cur t (0, 0))) (ho : Owns w h r) (hsz : cur.size = r.n * size) (h1 : ∀ v ∈ r.xs, v.oneCell' = true) :
    (Builtin.copy_ #[dT, sT] ty #[.slice (some ⟨g, 0, none⟩) r.n cap, .slice h.ao r.n h.cap]).run P w = .ok (goInt r.n) (w.setRow g r.xs.toArray) := by
  have hl : r.xs.length = r.n * size := by have := ho.1; rw [hr] at this; exact this
  have hst := run_storeCells_at P g 0 t r.xs 0 cur w hg (by simp; omega) h1
  have e0 : (cur.toList.take (0 + 0) ++ r.xs ++ cur.toList.drop (0 + 0 + r.xs.length)) = r.xs := by
    simp; omega
  rw [e0] at hst
  have hfc : (Builtin.firstCells size r.n (.slice h.ao r.n h.cap)).run P w = .ok r.xs.toArray w := by
    rcases ho.ways with ⟨e1, e2, e3⟩ | ⟨g', cur', e1, _⟩
    · rw [e1, e3]; exact run_firstCells_none w _ _ _ _
    · rw [e1]; exact run_firstCells_some w size r.n ⟨g', 0, none⟩ r.n h.cap r.xs hl (fun j v hj => by rw [addr_add]; exact ho.cell e1 j v hj)
  cases hq : P.info? elem with
  | none => simp [hq] at hs
  | some i =>
    have hi : i.size = size := by simpa [hq] using hs
    simp [Builtin.copy_, run_underlying hu, Builtin.lenOf, sizeOf, typeInfo, hq, hi, hfc, hst]

theorem kept_setRow {S : List Nat} {a w : World} (h : Kept S a w) {g : Nat} (hp : g ∈ S ∨ a.heap.size ≤ g) (c : Array Value) : Kept S a (w.setRow g c) :=
  ⟨h.os, h.tape, h.output, by have := h.size; simp [World.setRow]; omega, fun k hk hs => by
    rw [setRow_other w g k c (by rintro rfl; exact hp.elim hs (fun hp => by omega))]; exact h.block k hk hs⟩

/-- COPY of a whole owned row into a row of the same length that is known whole: the run's equation, the world behind it under a name of its own. -/
theorem copy_full {P : Program} (w : World) (dT sT ty : TypeId) (g cap : Nat) (h : Hd) (r : Row) (cur : Array Value) (t : TypeId)
    (hu : P.underlying dT = some (.slice r.e)) (hs : (P.info? r.e).map (·.size) = some r.size) (hg : w.heap[g]? = some (.cells cur t (0, 0))) (ho : Owns w h r) (hsz : cur.size = r.n * r.size) (h1 : ∀ v ∈ r.xs, v.oneCell' = true) :
    ∃ w', (Builtin.copy_ #[dT, sT] ty #[.slice (some ⟨g, 0, none⟩) r.n cap, .slice h.ao r.n h.cap]).run P w = .ok (goInt r.n) w' ∧ w'.heap[g]? = some (.cells r.xs.toArray t (0, 0)) ∧ Kept [g] w w' ∧ w'.heap.size = w.heap.size :=
  ⟨_, run_copy_wide (P := P) w dT sT ty r.e g cap r.size h r cur t hu hs rfl hg ho hsz h1, setRow_heap w g _ _ t _ hg, kept_setRow (Kept.refl _ _) (Or.inl (by simp)) _, by simp [World.setRow]⟩

theorem Owns.made {w : World} {g : Nat} {r : Row} (hg : w.heap[g]? = some (.cells r.xs.toArray r.e (0, 0))) (hl : r.xs.length = r.n * r.size) (hn : r.n ≤ maxLen) : Owns w ⟨some ⟨g, 0, none⟩, r.n⟩ r :=
  ⟨hl, Or.inr ⟨g, r.n, r.xs.toArray, rfl, Nat.zero_le _, hg, Nat.le_refl _, hn, by simpa using hl, by simp [← hl]⟩⟩

/-- APPEND onto an owned slice, as a run. -/
theorem run_append_row {P : Program} (w : World) (t ty : TypeId) (i : TypeInfo) (z : Value) (bytes : Nat) (h : Hd) (r : Row) (h1 : P.underlying t = some (.slice r.e)) (h2 : P.info? r.e = some i) (h3 : i.zero = some z) (h4 : i.size = r.size) (h5 : i.bytes = bytes) (h6 : z.cells.size = r.size) (h7 : 0 < r.size)
    (hown : Owns w h r) (ad : Addr) (m c : Nat) (news : List Value) (hn : news.length = m * r.size) (hc : ∀ j u, news[j]? = some u → w.cell? (ad.add j) = some u) (h1c : ∀ u ∈ news, u.oneCell' = true)
    (hm : 0 < m) (b1 : r.n + m ≤ maxLen) (b2 : (r.n + m) * bytes ≤ 140737488355328) :
    ∃ g cap' w', (Builtin.append_ #[t, t] ty #[.slice h.ao r.n h.cap, .slice (some ad) m c]).run P w = .ok (.slice (some ⟨g, 0, none⟩) (r.n + m) cap') w' ∧
      Owns w' ⟨some ⟨g, 0, none⟩, cap'⟩ ⟨r.e, r.size, r.n + m, r.xs ++ news⟩ ∧ w.grownBy w' h.blk ∧ (h.blk = some g ∨ w.heap.size ≤ g) := by
  rcases hown.ways with ⟨e1, e2, e3⟩ | ⟨g, cur, e1, e2, e3, e4, e5, e6⟩
  · obtain ⟨v', w', hrun, hw, hgr, _⟩ := run_append_own (P := P) w w.heap.size t ty r.e i z r.size bytes h1 h2 h3 h4 h5 h6 h7 (.slice none 0 0) 0 [] (World.ownsRow_nil w _ r.e r.size) ad m c news hn hc h1c (by omega) (by rw [e2] at b2; exact b2) (Nat.le_refl _)
    rcases hw.2 with ⟨_, q⟩ | ⟨g, cap', cur, q1, q2, q3, q4, q5, q6, q7⟩
    · omega
    · refine ⟨g, cap', w', ?_, ⟨by have := hw.1; simpa [e3, e2] using this, Or.inr ⟨g, cap', cur, by simp, Nat.zero_le _, q3, by simpa [e2] using q4, q5, q6, by simpa [e2, e3] using q7⟩⟩, ?_, Or.inr q2⟩
      · rw [e1, e2, hrun, q1]
      · rw [e1]; exact hgr
  · by_cases hf : r.n + m ≤ h.cap
    · obtain ⟨w', hrun, hw, hgr⟩ := run_append_fits (P := P) w 0 t ty r.e i r.size h1 h2 h4 g r.n h.cap r.xs (by have := hown; unfold Owns at this; rw [e1] at this; exact this) ad m c news hn hc h1c hf
      exact ⟨g, h.cap, w', by rw [e1, hrun], hw, by unfold Hd.blk; rw [e1]; exact hgr, Or.inl (by unfold Hd.blk; rw [e1]; rfl)⟩
    · obtain ⟨v', w', hrun, hw, hgr⟩ := run_append_arg_grows (P := P) w t ty r.e i z r.size bytes h1 h2 h3 h4 h5 h6 h7 ⟨g, 0, none⟩ r.n h.cap r.xs hown.1 (by intro j u hj; rw [addr_add]; exact hown.cell e1 j u hj) ad m c news hn hc (by omega) b1 b2
      rcases hw.2 with ⟨_, q⟩ | ⟨g', cap', cur', q1, q2, q3, q4, q5, q6, q7⟩
      · omega
      · exact ⟨g', cap', w', by rw [e1, hrun, q1], ⟨hw.1, Or.inr ⟨g', cap', cur', rfl, Nat.zero_le _, q3, q4, q5, q6, q7⟩⟩, ⟨hgr.os, hgr.tape, hgr.output, hgr.size, fun k hk _ => hgr.block k hk (by simp)⟩, Or.inr q2⟩

theorem step_append_row {P : Program} {ops : Array Oper} {o : Oper} {a : Act} {w : World} {K : Act → World → Prop} {Q : Exit → Act → World → Prop} {E : Prop}
    (hg : o.guard = none) (s x : Operand) (t : TypeId) (hop : o.op = Op.call { callee := Callee.builtin Builtin.append, args := #[s, x], argTypes := #[t, t] })
    (i : TypeInfo) (z : Value) (bytes : Nat) (h : Hd) (r : Row) (h1 : P.underlying t = some (.slice r.e)) (h2 : P.info? r.e = some i) (h3 : i.zero = some z) (h4 : i.size = r.size) (h5 : i.bytes = bytes) (h6 : z.cells.size = r.size) (h7 : 0 < r.size)
    (hs : a.eval s = .slice h.ao r.n h.cap) (hown : Owns w h r)
    (ad : Addr) (m c : Nat) (news : List Value) (hx : a.eval x = .slice (some ad) m c) (hn : news.length = m * r.size) (hc : ∀ j u, news[j]? = some u → w.cell? (ad.add j) = some u) (h1c : ∀ u ∈ news, u.oneCell' = true)
    (hm : 0 < m) (b1 : r.n + m ≤ maxLen) (b2 : (r.n + m) * bytes ≤ 140737488355328)
    (hK : ∀ g cap' w', Owns w' ⟨some ⟨g, 0, none⟩, cap'⟩ ⟨r.e, r.size, r.n + m, r.xs ++ news⟩ → w.grownBy w' h.blk → (h.blk = some g ∨ w.heap.size ≤ g) → K (a.put o.dst (.slice (some ⟨g, 0, none⟩) (r.n + m) cap')) w') :
    if Region.wanted o (yielded ops a.tmps) = true then Oper.wp P o a w K Q else E := by
  have hw : Region.wanted o (yielded ops a.tmps) = true := by simp [Region.wanted, hg]
  rw [if_pos hw]
  obtain ⟨g, cap', w', hrun, r1, r2, r3⟩ := run_append_row (P := P) w t o.type i z bytes h r h1 h2 h3 h4 h5 h6 h7 hown ad m c news hn hc h1c hm b1 b2
  unfold Oper.wp
  simp [execOp, hop, resolve, invoke, builtin, hs, hx, hrun, Result.andThen]
  exact hK g cap' w' r1 r2 r3

theorem run_make_row {P : Program} (w : World) (t e : TypeId) (i : TypeInfo) (z : Value) (ht : P.underlying t = some (.slice e)) (hi : P.info? e = some i) (hz : i.zero = some z) (n size : Nat) (hsz : i.size = size) (hb : i.bytes * n ≤ 281474976710656) (hn : n ≤ 1073741824) :
    (Instr.makeSlice t (.int .i64 n) (.int .i64 n)).run P w = .ok (.slice (some ⟨w.heap.size, 0, none⟩) n n) (w.alloc (.cells (madeCells z.cells (n * size)) e)) := by
  have := run_make (P := P) w t e i z ht hi hz .i64 .i64 n n (by omega) (Int.le_refl _) (by have := Int.ofNat_le.2 hb; rw [Int.natCast_mul] at this; exact this) (by omega)
  simpa [hsz] using this

end Go.Proofs.YtcipkfhpcbddiaaGreat
