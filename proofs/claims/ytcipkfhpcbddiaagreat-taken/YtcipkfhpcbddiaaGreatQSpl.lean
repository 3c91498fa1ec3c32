import Derived.Test.YtcipkfhpcbddiaaGreatQFr1
import Derived.Test.YtcipkfhpcbddiaaGreatQNam1
/- Package metaproofkeep: split: the words of a line. -/
namespace Go.Proofs.YtcipkfhpcbddiaaGreat
open Go.RowKit

/-- Behind i bytes: the words so far, and where the next begins. -/
def spAt (s : ByteArray) : Nat → List ByteArray × Nat
  | 0 => ([], 0)
  | i + 1 => if (byteAt s i == 32) = true then ((spAt s i).1 ++ [s.extract (spAt s i).2 i], i + 1) else spAt s i
def splitF (s : ByteArray) : List ByteArray := (spAt s s.size).1 ++ [s.extract (spAt s s.size).2 s.size]
theorem spAt_yes (s : ByteArray) (i : Nat) (h : (byteAt s i == 32) = true) : spAt s (i + 1) = ((spAt s i).1 ++ [s.extract (spAt s i).2 i], i + 1) := by rw [spAt, if_pos h]
theorem spAt_no (s : ByteArray) (i : Nat) (h : (byteAt s i == 32) = false) : spAt s (i + 1) = spAt s i := by rw [spAt, if_neg (by rw [h]; simp)]
theorem spAt_le (s : ByteArray) (i : Nat) : (spAt s i).2 ≤ i ∧ (spAt s i).1.length ≤ i := by
  induction i with
  | zero => simp [spAt]
  | succ i ih =>
    cases h : (byteAt s i == 32)
    · rw [spAt_no s i h]; omega
    · rw [spAt_yes s i h]; simp; omega

/-- No blank in it. -/
def NoBl (x : ByteArray) : Prop := ∀ i, i < x.size → (byteAt x i == 32) = false
theorem Wd.noBl {x : ByteArray} (h : Wd x) : NoBl x := by
  intro i hi
  have := (h.2 i hi).1
  cases e : (byteAt x i == 32)
  · rfl
  · have e' : byteAt x i = 32 := by simpa using e
    rw [e'] at this
    revert this; decide
theorem extract_all (x : ByteArray) : x.extract 0 x.size = x := by simp
theorem split_one (x : ByteArray) (h : NoBl x) : splitF x = [x] := by
  have : ∀ i, i ≤ x.size → spAt x i = ([], 0) := by
    intro i
    induction i with
    | zero => intro _; rfl
    | succ i ih => intro hi; rw [spAt_no x i (h i (by omega))]; exact ih (by omega)
  unfold splitF
  rw [this x.size (Nat.le_refl _)]
  simp
theorem extract_left (t u : ByteArray) (a z : Nat) (hz : z ≤ t.size) : (t ++ u).extract a z = t.extract a z := by
  apply ByteArray.ext_getElem
  · simp only [ByteArray.size_extract, ByteArray.size_append]; omega
  · intro i h1 h2
    rw [ByteArray.getElem_extract, ByteArray.getElem_extract, ByteArray.getElem_append_left]
theorem bl_size : (⟨#[32]⟩ : ByteArray).size = 1 := rfl
theorem split_more (t x : ByteArray) (h : NoBl x) : splitF (t ++ (⟨#[32]⟩ ++ x)) = splitF t ++ [x] := by
  have e1 : ∀ i, i ≤ t.size → spAt (t ++ (⟨#[32]⟩ ++ x)) i = spAt t i := by
    intro i
    induction i with
    | zero => intro _; rfl
    | succ i ih =>
      intro hi
      have ih := ih (by omega)
      have hb := byteAt_append_left t (⟨#[32]⟩ ++ x) i (by omega)
      cases hc : (byteAt t i == 32)
      · rw [spAt_no _ i (by rw [hb]; exact hc), spAt_no t i hc, ih]
      · rw [spAt_yes _ i (by rw [hb]; exact hc), spAt_yes t i hc, ih, extract_left _ _ _ _ (by omega)]
  have hs : (t ++ (⟨#[32]⟩ ++ x)).size = t.size + 1 + x.size := by simp only [ByteArray.size_append, bl_size]; omega
  have hb0 : byteAt (t ++ (⟨#[32]⟩ ++ x)) t.size = 32 := by
    have := byteAt_append_right t (⟨#[32]⟩ ++ x) 0 (by simp only [ByteArray.size_append, bl_size]; omega)
    rw [Nat.add_zero] at this
    rw [this, byteAt_append_left _ _ 0 (by rw [bl_size]; omega)]
    decide +kernel
  have hbr : ∀ i, i < x.size → byteAt (t ++ (⟨#[32]⟩ ++ x)) (t.size + 1 + i) = byteAt x i := by
    intro i hi
    have := byteAt_append_right t (⟨#[32]⟩ ++ x) (1 + i) (by simp only [ByteArray.size_append, bl_size]; omega)
    rw [show t.size + 1 + i = t.size + (1 + i) by omega, this]
    have h2 := byteAt_append_right (⟨#[32]⟩ : ByteArray) x i hi
    rw [bl_size] at h2
    exact h2
  have e2 : ∀ i, i ≤ x.size → spAt (t ++ (⟨#[32]⟩ ++ x)) (t.size + 1 + i) = (splitF t, t.size + 1) := by
    intro i
    induction i with
    | zero =>
      intro _
      rw [Nat.add_zero, spAt_yes _ t.size (by rw [hb0]; rfl), e1 _ (Nat.le_refl _), extract_left _ _ _ _ (Nat.le_refl _)]
      rfl
    | succ i ih =>
      intro hi
      rw [show t.size + 1 + (i + 1) = (t.size + 1 + i) + 1 by omega, spAt_no _ _ (by rw [hbr i (by omega)]; exact h i (by omega))]
      exact ih (by omega)
  conv => lhs; unfold splitF
  rw [hs, e2 x.size (Nat.le_refl _)]
  simp only
  congr 2
  apply ByteArray.ext_getElem
  · simp only [ByteArray.size_extract, hs]; omega
  · intro i h1 h2
    rw [ByteArray.getElem_extract]
    have hbi := hbr i h2
    rw [byteAt_of _ _ (by rw [hs]; omega), byteAt_of _ _ h2] at hbi
    exact UInt8.toNat_inj.1 (by omega)

theorem split_line_to (s : St) (hl : NoBl s.label) (hx : ∀ x ∈ s.symbols, NoBl x) (k : Nat) (hk : k ≤ s.symbols.length) : splitF (lineTo s k) = s.label :: keyF s.kind :: s.symbols.take k := by
  induction k with
  | zero =>
    unfold lineTo
    simp only [List.take_zero, List.foldl_nil]
    rw [ByteArray.append_assoc, split_more _ _ ?_, split_one _ hl]
    · rfl
    · unfold keyF
      repeat' split
      all_goals (intro i hi; have h2 : i < 2 := hi; match i, h2 with | 0, _ => decide +kernel | 1, _ => decide +kernel)
  | succ k ih =>
    rw [lineTo_next s k (by omega), split_more _ _ (hx _ (List.getElem_mem _)), ih (by omega), take_snoc s.symbols k (by omega)]
    simp
theorem split_line (s : St) (hl : NoBl s.label) (hx : ∀ x ∈ s.symbols, NoBl x) : splitF (lineF s) = s.label :: keyF s.kind :: s.symbols := by
  unfold lineF
  rw [split_line_to s hl hx _ (Nat.le_refl _), List.take_length]

set_option maxHeartbeats 1000000 in
set_option maxRecDepth 100000 in
theorem split_any (s : ByteArray) (w : World) (hs : s.size ≤ 1073741824) :
    Calls Tryz.prog 41 #[.string s] w fun e w' => ∃ hd : Hd, e = .returned (.slice hd.ao (splitF s).length hd.cap) ∧ Owns w' hd (rowS (splitF s)) ∧ (∀ x, hd.blk = some x → w.heap.size ≤ x) ∧ Kept [] w w' := by
  obtain ⟨i0, hi, hz0, hz1, hz2⟩ := info_parts infoS
  go_enter Tryz.func41, Tryz.ntmps41
  go_wp2
  go_loopg [3, 4, 5] s.size (fun gk sv fv i wr => ∃ (k : Nat) (hd : Hd), k ≤ s.size ∧ gk = s.size - k ∧ i = .int .i64 k ∧ fv = .int .i64 (spAt s k).2 ∧ sv = .slice hd.ao (spAt s k).1.length hd.cap ∧ Owns wr hd (rowS (spAt s k).1) ∧ (∀ x, hd.blk = some x → w.heap.size ≤ x) ∧ Kept [] w wr)
  case atStart => exact ⟨0, ⟨none, 0⟩, by omega, by omega, rfl, rfl, rfl, World.ownsRow_nil _ _ _ _, by intro x hx; simp [Hd.blk] at hx, Kept.refl _ _⟩
  case round =>
    obtain ⟨k, hd, hk, hg, rfl, rfl, rfl, hO, hN, hK⟩ := hrel
    have hle := spAt_le s k
    by_cases hlt : k < s.size
    · have HY := (show Hid _ from spAt_yes s k)
      have HN0 := (show Hid _ from spAt_no s k)
      rw [byteAt_of s k hlt] at HY HN0
      generalize hsp : spAt s k = sp at *
      obtain ⟨out, from_⟩ := sp
      simp only at hle hO HY HN0 ⊢
      have hfk : (from_ : Int) ≤ k := by omega
      cases hb : (((s[k]'hlt).toNat : Int) == 32)
      · have HT := (show Hid _ from HN0.out hb)
        clear HY HN0
        have hb' : (s[k]'hlt == 32) = false := by
          cases e : (s[k]'hlt == 32)
          · rfl
          · have e2 : s[k]'hlt = 32 := by simpa using e
            rw [e2] at hb; revert hb; decide
        go_wp2
        go_roundg (s.size - (k + 1))
        case measure => omega
        case rel => exact ⟨k + 1, hd, by omega, rfl, by go_num, by rw [HT.out], by rw [HT.out], by rw [HT.out]; exact hO, hN, hK⟩
      · have HT := (show Hid _ from HY.out hb)
        clear HY HN0
        have hb' : (s[k]'hlt == 32) = true := by
          have e2 : ((s[k]'hlt).toNat : Int) = 32 := by simpa using hb
          have : s[k]'hlt = 32 := UInt8.toNat_inj.1 (by simp; omega)
          rw [this]; rfl
        have hO4 : Owns (wr.alloc (.cells #[.string (s.extract from_ k)] 9)) hd (rowS out) := hO.moved (fun x hx => ((Kept.refl [] wr).alloc _).block x (hO.lt hx) (by simp))
        go_wp2_with (at_builtin; refine wpList_append_row _ rfl (.tmp 16) (.tmp 21) 22 rfl i0 (.string ⟨#[]⟩) 16 hd (rowS out) Tryz.underlying22 hi hz0 hz1 hz2 rfl Nat.one_pos rfl (by exact hO4) ⟨_, 0, none⟩ 1 1 [.string (s.extract from_ k)] rfl rfl ?d1 ?d2 Nat.one_pos ?d3 ?d4 ?_)
        case d1 => intro j u hj; match j, hj with | 0, hj => simp at hj; subst hj; simp [Addr.add]
        case d2 => intro u hu; simp at hu; subst hu; rfl
        case d3 => simp only [rowS]; unfold maxLen; omega
        case d4 => simp only [rowS]; omega
        intro g5 cap5 w5 hw5 hgr5 hfresh5
        rw [rowS_snoc out (s.extract from_ k)] at hw5
        have hK4 := hK.alloc (.cells #[.string (s.extract from_ k)] 9)
        have hK5 := hK4.grown hgr5 hN
        have hg5 : w.heap.size ≤ g5 := by
          rcases hfresh5 with e | e
          · exact hN g5 e
          · have := hK4.size; simp at e this; omega
        have hEl : Hid ((rowS out).n + 1 = (out ++ [s.extract from_ k]).length) := by show _ = _; simp [rowS]
        rw [hEl.out]
        clear hgr5 hfresh5 hO4
        go_wp2
        go_roundg (s.size - (k + 1))
        case measure => omega
        case rel => exact ⟨k + 1, ⟨some ⟨g5, 0, none⟩, cap5⟩, by omega, rfl, by go_num, by rw [HT.out]; go_num, by rw [HT.out], by rw [HT.out]; exact hw5, by intro x hx; simp [Hd.blk] at hx; omega, hK5⟩
    · have e : k = s.size := by omega
      subst e
      have HE : Hid (splitF s = (spAt s s.size).1 ++ [s.extract (spAt s s.size).2 s.size]) := rfl
      generalize spAt s s.size = sp at *
      obtain ⟨out, from_⟩ := sp
      simp only at hle hO HE ⊢
      have hfk : (from_ : Int) ≤ s.size := by omega
      have hO4 : Owns (wr.alloc (.cells #[.string (s.extract from_ s.size)] 9)) hd (rowS out) := hO.moved (fun x hx => ((Kept.refl [] wr).alloc _).block x (hO.lt hx) (by simp))
      go_wp2_with (at_builtin; refine wpList_append_row _ rfl (.tmp 25) (.tmp 29) 22 rfl i0 (.string ⟨#[]⟩) 16 hd (rowS out) Tryz.underlying22 hi hz0 hz1 hz2 rfl Nat.one_pos rfl (by exact hO4) ⟨_, 0, none⟩ 1 1 [.string (s.extract from_ s.size)] rfl rfl ?d1 ?d2 Nat.one_pos ?d3 ?d4 ?_)
      case d1 => intro j u hj; match j, hj with | 0, hj => simp at hj; subst hj; simp [Addr.add]
      case d2 => intro u hu; simp at hu; subst hu; rfl
      case d3 => simp only [rowS]; unfold maxLen; omega
      case d4 => simp only [rowS]; omega
      intro g5 cap5 w5 hw5 hgr5 hfresh5
      rw [rowS_snoc out (s.extract from_ s.size)] at hw5
      have hK4 := hK.alloc (.cells #[.string (s.extract from_ s.size)] 9)
      have hK5 := hK4.grown hgr5 hN
      have hg5 : w.heap.size ≤ g5 := by
        rcases hfresh5 with e | e
        · exact hN g5 e
        · have := hK4.size; simp at e this; omega
      have hEl : Hid ((rowS out).n + 1 = (out ++ [s.extract from_ s.size]).length) := by show _ = _; simp [rowS]
      rw [hEl.out]
      clear hgr5 hfresh5 hO4
      go_wp2
      go_ret
      rw [HE.out]
      exact ⟨⟨some ⟨g5, 0, none⟩, cap5⟩, rfl, hw5, by intro x hx; simp [Hd.blk] at hx; omega, hK5⟩

end Go.Proofs.YtcipkfhpcbddiaaGreat
