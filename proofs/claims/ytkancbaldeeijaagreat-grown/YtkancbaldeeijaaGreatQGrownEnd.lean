import Derived.Test.YtkancbaldeeijaaGreatG30
import Derived.Test.YtkancbaldeeijaaGreatQGrownRow
import Derived.Test.YtkancbaldeeijaaGreatQFirst
/- The statement on Grown. -/
namespace Go.Proofs.YtkancbaldeeijaaGreat
open Go.RowKit

set_option maxHeartbeats 1000000 in
set_option maxRecDepth 100000 in
theorem grown_all : GrownWalk := by
  intro ao cap l w hl hls hc
  have HSM := (show Hid _ from smallish ao cap l w hl hls hc)
  go_enter Tryz.func6, Tryz.ntmps6
  go_wp2_with fail
  refine Calls.mono HSM.out ?_
  rintro e w1 ⟨⟨r, rfl, hr⟩, hw1⟩
  subst hw1
  cases r
  · go_wp2
    go_ret
    exact ⟨rfl, Below.refl _ _⟩
  · obtain ⟨hl1, hl2⟩ := hr rfl
    go_wp2_with fail
    refine (firstly_any _).mono ?_
    rintro e w0 ⟨rfl, hk0⟩
    have hc0 : l.length = 0 ∨ ∃ b off, ao = some ⟨b, off, none⟩ ∧ ChunksAt w0 b off l := by
      rcases hc with h0 | ⟨b, off, he, hcc⟩
      · exact Or.inl h0
      · exact Or.inr ⟨b, off, he, hcc.kept hk0 (by simp)⟩
    go_wp2_with fail
    refine (grown_any ao cap l _ hl1 hl2 hc0).mono ?_
    rintro e w2 ⟨b, x, rfl, -, hk2⟩
    go_wp2
    go_ret
    refine ⟨rfl, ?_⟩
    have hk := hk0.trans hk2
    exact ⟨hk.os, hk.tape, hk.output, hk.size, fun k hk' => hk.block k hk' (by simp)⟩

theorem grown_holds : Rows.GrownSaid := grownOver grown_all

end Go.Proofs.YtkancbaldeeijaaGreat
