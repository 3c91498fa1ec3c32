import Derived.Test.YtkancbaldeeijaaGreatQCutRow
import Derived.Test.YtkancbaldeeijaaGreatQCut
import Derived.Test.YtkancbaldeeijaaGreatQJudges
/- The statement on Cut. -/
namespace Go.Proofs.YtkancbaldeeijaaGreat
open Go.RowKit

set_option maxHeartbeats 1000000 in
set_option maxRecDepth 100000 in
theorem cut_all : CutWalk := by
  intro ao cap l a w hl hls ha1 ha2 hc
  have HSM := (show Hid _ from smallish ao cap l w hl hls hc)
  go_enter Tryz.func7, Tryz.ntmps7
  go_wp2_with fail
  refine Calls.mono HSM.out ?_
  rintro e w1 ⟨⟨r, rfl, hr⟩, hw1⟩
  subst hw1
  cases r
  · go_wp2
    go_ret
    exact ⟨rfl, Below.refl _ _⟩
  · obtain ⟨hl1, hl2⟩ := hr rfl
    go_wp2_with fail
    refine (judges_any _).mono ?_
    rintro e w0 ⟨rfl, hk0⟩
    have hc0 : l.length = 0 ∨ ∃ b off, ao = some ⟨b, off, none⟩ ∧ ChunksAt w0 b off l := by
      rcases hc with h0 | ⟨b, off, he, hcc⟩
      · exact Or.inl h0
      · exact Or.inr ⟨b, off, he, hcc.kept hk0 (by simp)⟩
    have hz0 := hk0.size
    go_wp2_with fail
    refine (grown_any ao cap l _ hl1 hl2 hc0).mono ?_
    rintro e w2 ⟨b, x, rfl, ⟨la, lb, lc, ⟨T, o, hW, hT⟩, ⟨fs, hV, hM⟩⟩, hk2⟩
    go_wp2_with fail
    refine (cut_any b x T a o fs _ hW hV lc hM hT ⟨ha1, ha2⟩).mono ?_
    rintro e w4 ⟨rfl, hk4⟩
    go_wp2
    go_ret
    refine ⟨rfl, ?_⟩
    have hk : Kept [x] w1 w4 := ((hk0.trans hk2).mono (by simp)).trans hk4
    exact ⟨hk.os, hk.tape, hk.output, hk.size, fun k hk' => hk.block k hk' (by simp; omega)⟩

theorem cut_holds : Rows.CutSaid := cutOver cut_all

end Go.Proofs.YtkancbaldeeijaaGreat
