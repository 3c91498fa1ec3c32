import Derived.Deep.CutRange
import Derived.Deep.CutBlock
import Derived.Deep.LoopGhost
import Derived.Test.YtkancbaldeeijaaGreatG10
/- Package metaproofkeep: placed, the texts. -/
namespace Go.Proofs.YtkancbaldeeijaaGreat
open Go.RowKit

theorem build_place (w : World) (n : ByteArray) (l c : Int) : (Instr.build 45 #[(0, .string n), (1, .int .i64 l), (2, .int .i64 c)]).run Tryz.prog w = .ok (.agg #[.string n, .int .i64 l, .int .i64 c]) w :=
  run_build w 45 _ _ (by kernel_rfl)

/-- The text with a byte 7 ahead of place k. -/
theorem ins_of (T : ByteArray) (k : Nat) (hk : k ≤ T.size) : Ins T (T.extract 0 k ++ ⟨#[7]⟩ ++ T.extract k T.size) k ∧ (T.extract 0 k ++ ⟨#[7]⟩ ++ T.extract k T.size).size = T.size + 1 ∧
    (holdsF T = false → holdsF (T.extract 0 k ++ ⟨#[7]⟩ ++ T.extract k T.size) = false) := by
  have s0 : (T.extract 0 k).size = k := by simp; omega
  have s7 : (⟨#[7]⟩ : ByteArray).size = 1 := rfl
  have s1 : (T.extract 0 k ++ ⟨#[7]⟩).size = k + 1 := by rw [ByteArray.size_append, s0, s7]
  have s2 : (T.extract k T.size).size = T.size - k := by simp
  have sz : (T.extract 0 k ++ ⟨#[7]⟩ ++ T.extract k T.size).size = T.size + 1 := by rw [ByteArray.size_append, s1, s2]; omega
  have cut : ∀ a z i, z ≤ T.size → a + i < z → byteAt (T.extract a z) i = byteAt T (a + i) := by
    intro a z i hz hi
    have h1 : i < (T.extract a z).size := by simp; omega
    rw [byteAt_of _ _ h1, byteAt_of T _ (by omega)]
    simp [ByteArray.getElem_eq_getElem_data]
  have left : ∀ i, i < k → byteAt (T.extract 0 k ++ ⟨#[7]⟩ ++ T.extract k T.size) i = byteAt T i := by
    intro i hi
    rw [byteAt_append_left _ _ _ (by omega), byteAt_append_left _ _ _ (by omega), cut 0 k i hk (by omega), Nat.zero_add]
  have mid : byteAt (T.extract 0 k ++ ⟨#[7]⟩ ++ T.extract k T.size) k = 7 := by
    rw [byteAt_append_left _ _ _ (by omega)]
    have := byteAt_append_right (T.extract 0 k) ⟨#[7]⟩ 0 (by rw [s7]; omega)
    rw [s0, Nat.add_zero] at this
    rw [this]; decide +kernel
  have right : ∀ i, k + i < T.size → byteAt (T.extract 0 k ++ ⟨#[7]⟩ ++ T.extract k T.size) (k + 1 + i) = byteAt T (k + i) := by
    intro i hi
    have := byteAt_append_right (T.extract 0 k ++ ⟨#[7]⟩) (T.extract k T.size) i (by omega)
    rw [s1] at this
    rw [this, cut k T.size i (Nat.le_refl _) (by omega)]
  refine ⟨⟨hk, by omega, left, mid⟩, sz, ?_⟩
  intro hT
  rw [holds_iff] at hT ⊢
  rintro i hi ⟨h1, h2⟩
  rcases Nat.lt_or_ge (i + 1) k with hl | hl
  · exact hT i (by omega) ⟨by rw [← left i (by omega)]; exact h1, by rw [← left (i + 1) hl]; exact h2⟩
  · rcases Nat.lt_or_ge i k with hl2 | hl2
    · have : i + 1 = k := by omega
      rw [this, mid] at h2; omega
    · rcases Nat.lt_or_ge k i with hl3 | hl3
      · obtain ⟨j, rfl⟩ : ∃ j, i = k + 1 + j := ⟨i - (k + 1), by omega⟩
        rw [right j (by omega)] at h1
        rw [show k + 1 + j + 1 = k + 1 + (j + 1) by omega, right (j + 1) (by omega)] at h2
        exact hT (k + j) (by omega) ⟨h1, h2⟩
      · have : i = k := by omega
        rw [this, mid] at h1; omega

theorem placed_texts (T S : ByteArray) (k : Nat) (hk : k ≤ T.size) (hT : Fine T) (hS : S = T.extract 0 k ++ ⟨#[7]⟩ ++ T.extract k T.size) :
    S.size = T.size + 1 ∧ holdsF S = false ∧ (rdM S).1 = (1, k) ∧ lineAt S k = lineAt T k ∧ colAt S k = colAt T k := by
  subst hS
  obtain ⟨a, b, c⟩ := ins_of T k hk
  exact ⟨b, c hT.inc, read_ins a ⟨#[109]⟩ 0 emptyDb (Nat.zero_le _) hT.ok, (line_ins a k (Nat.le_refl _)).1, (line_ins a k (Nat.le_refl _)).2⟩

end Go.Proofs.YtkancbaldeeijaaGreat
