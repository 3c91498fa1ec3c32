/- Our texts: GvQ. -/
import Derived.Test.YtcipkfhpcbddiaaGreatG30
/- Package metaproofkeep: given: what its walk needs. -/
namespace Go.Proofs.YtcipkfhpcbddiaaGreat
open Go.RowKit

def hasReg (n : Nat) : Code → Bool
  | .region id _ _ => Nat.beq id n
  | .seq a b => match hasReg n a with
    | true => true
    | false => hasReg n b
  | .cond _ a b => match hasReg n a with
    | true => true
    | false => hasReg n b
  | .block _ c => hasReg n c
  | .loop c => hasReg n c
  | .scope c => hasReg n c
  | _ => false
def findTail (n : Nat) : Code → Option Code
  | .seq a b => match hasReg n a with
    | true => some (.seq a b)
    | false => findTail n b
  | .block _ c => findTail n c
  | .scope c => findTail n c
  | _ => none

theorem or_blk {h : Hd} {g c n : Nat} (hf : h.blk = some g ∨ n ≤ g) : (⟨some ⟨g, 0, none⟩, c⟩ : Hd).blk = h.blk ∨ ∃ q, (⟨some ⟨g, 0, none⟩, c⟩ : Hd).blk = some q ∧ n ≤ q := by
  rcases hf with e | e
  · exact Or.inl e.symm
  · exact Or.inr ⟨g, rfl, e⟩
theorem GvS.nilW {w0 w : World} {n b x F g : Nat} {ao : Option Addr} {cap : Nat} {T z : ByteArray} {o : Option Nat} {hw hv : Hd} {Lw Lv : List ByteArray} (h : GvS w0 w n b x F g ao cap T z o hw Lw hv Lv) : GvS w0 w n b x F g ao cap T z o ⟨none, 0⟩ [] hv Lv :=
  ⟨h.W, h.V, h.O, World.ownsRow_nil _ _ _ _, h.vars, (by intro k hk; cases hk), h.farV, (by intro k hk; cases hk), h.low, h.kept⟩
theorem outLs_part (T z : ByteArray) (j : Nat) (u : Value) (hj : (strs (hlL T ++ plL T))[j]? = some u) : (strs (outLs T z))[j]? = some u := by
  have e : strs (outLs T z) = strs (hlL T ++ plL T) ++ strs [lastO z] := by unfold strs outLs; simp
  rw [e, List.getElem?_append_left (List.getElem?_eq_some_iff.1 hj).1]
  exact hj
/-- A frame, asked for. -/
theorem frame_says {x n : Nat} {U lab : ByteArray} {L : List ByteArray} {fs : List (ByteArray × ByteArray)} {H : Nat → Hd} {g : Nat} {w2 : World} (hR : RptAt w2 x fs (rdM U).2.sts H g) (hU : U.size ≤ 1024) (hinc : holdsF U = false) (hF : FrameU U lab L n) :
    ∀ w', Kept [] w2 w' → Calls Tryz.prog 28 #[.pointer (some ⟨x, 0, none⟩), .string lab] w' fun e w'' => ∃ g, e = .returned (.tuple #[.slice (some ⟨g, 0, none⟩) L.length L.length, .int .i64 0]) ∧ LnsAt w'' g L L.length ∧ w'.heap.size ≤ g ∧ Kept [] w' w'' := by
  intro w' q
  have ok := (rdM_rec U hU hinc).ok
  have hszs := (rdM_nmS U hU).szs
  refine (vframe_any x fs _ H g lab w' (hR.still q) ok hszs).mono ?_
  rintro e w'' ⟨k1, h2⟩
  rw [hF.find] at h2
  obtain ⟨g', h3, h4, h5⟩ := h2
  rw [hF.lines] at h3 h4
  exact ⟨g', h3, h4, h5, k1⟩
/-- The same texts, twice in memory. -/
theorem same_says {L : List ByteArray} {m : Nat} (hm : L.length = m) (hL : m ≤ 1000000000) {g1 c1 c2 : Nat} {h2 : Hd} {w : World} (e1 : LnsAt w g1 L m) (b1 : g1 < w.heap.size) (o2 : Owns w h2 (rowS L)) (h0 : 0 < m) :
    Calls Tryz.prog 29 #[.slice (some ⟨g1, 0, none⟩) m c1, .slice h2.ao m c2] w fun e w' => e = .returned (.bool true) ∧ Kept [] w w' := by
  subst hm
  obtain ⟨g2, e2, b2, h⟩ := owns_same o2 h0
  rw [e2]
  exact sameTexts_eq g1 g2 c1 c2 L w (lns_all e1) h b1 b2 hL

end Go.Proofs.YtcipkfhpcbddiaaGreat
