import Derived.Test.YtcipkfhpcbddiaaGreatQNam3
/- Package metaproofkeep: taken, the texts. No walk. -/
namespace Go.Proofs.YtcipkfhpcbddiaaGreat
open Go.RowKit

def tkS : List ByteArray := [⟨#[]⟩, ⟨#[36, 99, 32]⟩, ⟨#[36, 118, 32]⟩, ⟨#[36, 99, 32]⟩, ⟨#[36, 118, 32]⟩]
def tkN (lab code : ByteArray) : List ByteArray := [lab, lab, lab, code, code]
/-- What is said of a text that ends in a name that is in use. -/
structure TkOk (T s x U : ByteArray) : Prop where
  size : U.size = T.size + 1 + s.size + x.size + 3
  inc : holdsF U = false
  rule : (rdM U).1.1 = 13
  line : lineAt U (rdM U).1.2 = lineAt T T.size + 1
  col : colAt U (rdM U).1.2 = s.size + 1
theorem app5 (T s x e : ByteArray) : T ++ ⟨#[10]⟩ ++ s ++ x ++ e = T ++ ⟨#[10]⟩ ++ (s ++ x ++ e) := by simp only [ByteArray.append_assoc]
theorem holds_wd (x : ByteArray) (hx : Wd x) : holdsF (x ++ endB) = false := by
  rw [holds_iff]
  rintro i hi ⟨h1, h2⟩
  rw [ByteArray.size_append, endB_size] at hi
  by_cases h : i < x.size
  · rw [byteAt_append_left _ _ _ h] at h1
    exact (hx.2 i h).2 h1
  · obtain ⟨j, rfl⟩ : ∃ j, i = x.size + j := ⟨i - x.size, by omega⟩
    rw [show x.size + j + 1 = x.size + (j + 1) by omega, byteAt_append_right _ _ _ (by rw [endB_size]; omega)] at h2
    have hj : j = 0 ∨ j = 1 := by omega
    rcases hj with rfl | rfl
    · revert h2; decide +kernel
    · revert h2; decide +kernel
theorem holds_key (x : ByteArray) (b : UInt8) (hb : b = 99 ∨ b = 118) (hx : Wd x) : holdsF (⟨#[36, b, 32]⟩ ++ x ++ endB) = false := by
  rw [ByteArray.append_assoc, holds_iff]
  have hw := (holds_iff _).1 (holds_wd x hx)
  rintro i hi ⟨h1, h2⟩
  have hs3 : (⟨#[36, b, 32]⟩ : ByteArray).size = 3 := rfl
  rw [ByteArray.size_append, hs3] at hi
  by_cases h : 3 ≤ i
  · obtain ⟨j, rfl⟩ : ∃ j, i = 3 + j := ⟨i - 3, by omega⟩
    have e1 := byteAt_append_right ⟨#[36, b, 32]⟩ (x ++ endB) j (by omega)
    have e2 := byteAt_append_right ⟨#[36, b, 32]⟩ (x ++ endB) (j + 1) (by omega)
    rw [hs3] at e1 e2
    rw [e1] at h1
    rw [show 3 + j + 1 = 3 + (j + 1) by omega, e2] at h2
    exact hw j (by omega) ⟨h1, h2⟩
  · have hi3 : i = 0 ∨ i = 1 ∨ i = 2 := by omega
    rcases hi3 with rfl | rfl | rfl
    · rw [byteAt_append_left _ _ _ (by rw [hs3]; omega)] at h2
      have : byteAt (⟨#[36, b, 32]⟩ : ByteArray) (0 + 1) = (b.toNat : Int) := rfl
      rw [this] at h2
      rcases hb with rfl | rfl <;> revert h2 <;> decide
    · rw [byteAt_append_left _ _ _ (by rw [hs3]; omega)] at h1
      have : byteAt (⟨#[36, b, 32]⟩ : ByteArray) 1 = (b.toNat : Int) := rfl
      rw [this] at h1
      rcases hb with rfl | rfl <;> revert h1 <;> decide
    · rw [byteAt_append_left _ _ _ (by rw [hs3]; omega)] at h1
      have : byteAt (⟨#[36, b, 32]⟩ : ByteArray) 2 = 32 := rfl
      rw [this] at h1
      omega
theorem tk_label (T x : ByteArray) (hT : Fine T) (hx : Wd x) (hl : isLabelF x = true) (ht : isTakenF (rdM T).2 x = true) : TkOk T ⟨#[]⟩ x (T ++ ⟨#[10]⟩ ++ ⟨#[]⟩ ++ x ++ endB) := by
  have e : T ++ ⟨#[10]⟩ ++ ⟨#[]⟩ ++ x ++ endB = T ++ ⟨#[10]⟩ ++ (x ++ endB) := by
    rw [app5]
    congr 1
  rw [e]
  have hr := taken_label T x hT hx hl ht
  have hL := line_U T (x ++ endB)
  refine ⟨?_, holds_more T _ hT.inc (holds_wd x hx), by rw [hr], by rw [hr]; exact hL.1, by rw [hr, hL.2]; rfl⟩
  rw [ByteArray.size_append, ByteArray.size_append, ByteArray.size_append, lf_size, endB_size]
  show _ = _ + 0 + _ + _
  omega
theorem tk_key (T x : ByteArray) (b : UInt8) (hb : b = 99 ∨ b = 118) (hT : Fine T) (hx : Wd x) (ht : hasF (rdM T).2.labels x = true ∨ hasF (rdM T).2.constants x = true) : TkOk T ⟨#[36, b, 32]⟩ x (T ++ ⟨#[10]⟩ ++ ⟨#[36, b, 32]⟩ ++ x ++ endB) := by
  rw [app5]
  have hr := taken_sym T x b hb hT hx ht
  have hL := line_U T (⟨#[36, b, 32]⟩ ++ x ++ endB)
  have hs3 : (⟨#[36, b, 32]⟩ : ByteArray).size = 3 := rfl
  have hcs : (⟨#[36, b, 32]⟩ ++ x ++ endB).size = 3 + x.size + 3 := by rw [ByteArray.size_append, ByteArray.size_append, endB_size, hs3]
  have hby : ∀ i, i < 3 → byteAt (T ++ ⟨#[10]⟩ ++ (⟨#[36, b, 32]⟩ ++ x ++ endB)) (T.size + 1 + i) = byteAt ⟨#[36, b, 32]⟩ i := fun i hi => by
    rw [pre_right T _ i (by omega), byteAt_append_left _ _ i (by rw [ByteArray.size_append, hs3]; omega), byteAt_append_left _ _ i (by rw [hs3]; omega)]
  have hne : ∀ i, i < 3 → (byteAt (T ++ ⟨#[10]⟩ ++ (⟨#[36, b, 32]⟩ ++ x ++ endB)) (T.size + 1 + i) == 10) = false := fun i hi => by
    rw [hby i hi]
    have : i = 0 ∨ i = 1 ∨ i = 2 := by omega
    rcases this with rfl | rfl | rfl
    · rfl
    · rcases hb with rfl | rfl <;> rfl
    · rfl
  have n0 := hne 0 (by omega)
  have n1 := hne 1 (by omega)
  have n2 := hne 2 (by omega)
  rw [Nat.add_zero] at n0
  refine ⟨?_, holds_more T _ hT.inc (holds_key x b hb hx), by rw [hr], ?_, ?_⟩
  · rw [ByteArray.size_append, ByteArray.size_append, lf_size, hcs, hs3]; omega
  · rw [hr]
    show lineAt _ (T.size + 1 + 1 + 1 + 1) = _
    rw [lineAt, if_neg (by rw [show T.size + 1 + 1 + 1 = T.size + 1 + 2 by omega, n2]; simp), lineAt, if_neg (by rw [n1]; simp), lineAt, if_neg (by rw [n0]; simp), hL.1]
  · rw [hr]
    show colAt _ (T.size + 1 + 1 + 1 + 1) = _
    rw [colAt, if_neg (by rw [show T.size + 1 + 1 + 1 = T.size + 1 + 2 by omega, n2]; simp), colAt, if_neg (by rw [n1]; simp), colAt, if_neg (by rw [n0]; simp), hL.2, hs3]
    rfl

/-- The texts of all five rounds. -/
theorem tk_all (T lab code : ByteArray) (hT : Fine T) (h1 : Wd lab) (h2 : isLabelF lab = true) (h3 : hasF (rdM T).2.labels lab = true) (h4 : Wd code) (h5 : hasF (rdM T).2.constants code = true) (k : Nat) (hk : k < 5) (s x : ByteArray) (hs : tkS[k]? = some s) (hx : (tkN lab code)[k]? = some x) :
    TkOk T s x (T ++ ⟨#[10]⟩ ++ s ++ x ++ endB) ∧ x.size ≤ lab.size + code.size ∧ s.size ≤ 3 := by
  have ht : isTakenF (rdM T).2 lab = true := by unfold isTakenF; rw [h3]; rfl
  have hk5 : k = 0 ∨ k = 1 ∨ k = 2 ∨ k = 3 ∨ k = 4 := by omega
  rcases hk5 with rfl | rfl | rfl | rfl | rfl
  · cases hs; cases hx; exact ⟨tk_label T lab hT h1 h2 ht, by omega, by decide⟩
  · cases hs; cases hx; exact ⟨tk_key T lab 99 (Or.inl rfl) hT h1 (Or.inl h3), by omega, by decide⟩
  · cases hs; cases hx; exact ⟨tk_key T lab 118 (Or.inr rfl) hT h1 (Or.inl h3), by omega, by decide⟩
  · cases hs; cases hx; exact ⟨tk_key T code 99 (Or.inl rfl) hT h4 (Or.inr h5), by omega, by decide⟩
  · cases hs; cases hx; exact ⟨tk_key T code 118 (Or.inr rfl) hT h4 (Or.inr h5), by omega, by decide⟩

/-- All that taken looks at, of one row. -/
structure RowT (T lab : ByteArray) (n : Nat) (c : ByteArray) (r : List ByteArray) : Prop where
  find : findAF (rdM T).2.sts lab = some n
  fr : FrOk (rdM T).2.sts n
  own : ((rdM T).2.sts[n]'fr.ha).label.toList = lab.toList
  syms : ((rdM T).2.sts[n]'fr.ha).symbols = c :: r
  hyp : ∀ x ∈ (hypsF (rdM T).2.sts n).map (labN (rdM T).2.sts), findAF (rdM T).2.sts x = none
  tx : ∀ (k : Nat) s x, k < 5 → tkS[k]? = some s → (tkN lab c)[k]? = some x → TkOk T s x (T ++ ⟨#[10]⟩ ++ s ++ x ++ endB) ∧ x.size ≤ 2048 ∧ s.size ≤ 3
theorem rowT_of (T : ByteArray) (hT : Fine T) (r : Rw) (hr : r ∈ rowsM T) : ∃ n c rr, RowT T r.label n c rr := by
  obtain ⟨n, s, hf, hs, ha, hl⟩ := row_asserts _ r hr
  have hnm := rdM_nmS T hT.size
  have ok := (rdM_rec T hT.size hT.inc).ok
  obtain ⟨hn, rfl⟩ := List.getElem?_eq_some_iff.1 hs
  have hso := hnm.sts _ (List.getElem_mem hn)
  have hk : 2 ≤ (rdM T).2.sts[n].kind ∧ (rdM T).2.sts[n].kind ≤ 5 := hso.kind.resolve_left (by intro e; rw [e] at ha; revert ha; decide)
  obtain ⟨c, rr, hc, hcc⟩ := hso.code hk
  obtain ⟨l1, l2, l3⟩ := hso.lab hk
  rw [hl] at l1 l2 l3
  have hwc : WdS c := hso.syms c (by rw [hc]; simp)
  have fr := FrOk.of hnm ok n hn ha
  refine ⟨n, c, rr, hf, fr, by rw [hl], hc, ?_, ?_⟩
  · intro x hx
    obtain ⟨m, hm, rfl⟩ := List.mem_map.1 hx
    obtain ⟨t, ht, hkt⟩ := hyps_kind _ _ _ hm
    have e : labN (rdM T).2.sts m = t.label := by unfold labN; rw [ht]
    rw [e]
    exact find_none hnm.diff m t ht hkt
  · intro k s x hk5 hs5 hx5
    obtain ⟨a1, a2, a3⟩ := tk_all T r.label c hT l1.1 l2 l3 hwc.1 hcc k hk5 s x hs5 hx5
    exact ⟨a1, by have := l1.2; have := hwc.2; omega, a3⟩

end Go.Proofs.YtcipkfhpcbddiaaGreat
