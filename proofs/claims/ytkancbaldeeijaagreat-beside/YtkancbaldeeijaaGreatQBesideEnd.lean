import Derived.Test.YtkancbaldeeijaaGreatG30
import Derived.Test.YtkancbaldeeijaaGreatQBesideRow
/- The statement on Beside. -/
namespace Go.Proofs.YtkancbaldeeijaaGreat
open Go.RowKit

set_option maxHeartbeats 1000000 in
set_option maxRecDepth 100000 in
theorem beside_all : BesideWalk := by
  intro ao cap l a d w hl hls ha1 ha2 hds hc
  have ha : -9223372036854775808 ≤ a ∧ a ≤ 9223372036854775807 := ⟨ha1, ha2⟩
  have HSM := (show Hid _ from smallish ao cap l w hl hls hc)
  go_enter Tryz.func5, Tryz.ntmps5
  go_wp2_with fail
  refine Calls.mono HSM.out ?_
  rintro e w1 ⟨⟨r, rfl, hr⟩, hw1⟩
  subst hw1
  cases r
  · go_wp2
    go_ret
    exact ⟨rfl, Below.refl _ _⟩
  · obtain ⟨hl1, hl2⟩ := hr rfl
    by_cases hd : 1073741824 < d.size
    · go_wp2
      go_ret
      exact ⟨rfl, Below.refl _ _⟩
    · go_wp2_with fail
      refine (grown_any ao cap l _ hl1 hl2 hc).mono ?_
      rintro e w2 ⟨b, x, rfl, ⟨la, lb, lc, ⟨T, o, hW, hT⟩, ⟨fs, hV, hM⟩⟩, hk2⟩
      obtain ⟨c0, c1, -⟩ := hW.cells
      go_wp2_with fail
      refine (vput_any x ⟨#[]⟩ d fs _ hV (by simp [ByteArray.size]) (by omega)).mono ?_
      rintro e w3 ⟨rfl, hV3, -, hk3⟩
      have hp : putF fs ⟨#[]⟩ d = (2, fs) := by
        have : checkF ⟨#[]⟩ d = 2 := by simp [checkF, show isNameF ⟨#[]⟩ = false by decide +kernel]
        simp [putF, this]
      rw [hp] at hV3 ⊢
      have hW3 := hW.keptX hk3 lc
      go_wp2_with fail
      refine (more_any b x T d o a fs _ hW3 hV3 lc hM hT ha (by omega)).mono ?_
      rintro e w4 ⟨rfl, hk4⟩
      go_wp2
      go_ret
      refine ⟨rfl, ?_⟩
      have hk : Kept [x] w1 w4 := ((hk2.mono (by simp)).trans hk3).trans hk4
      exact ⟨hk.os, hk.tape, hk.output, hk.size, fun k hk' => hk.block k hk' (by simp; omega)⟩

theorem beside_holds : Rows.BesideSaid := besideOver beside_all

end Go.Proofs.YtkancbaldeeijaaGreat
