/- Our texts: GivenEnd. -/
import Derived.Test.YtcipkfhpcbddiaaGreatG20
import Derived.Test.YtcipkfhpcbddiaaGreatG35
/- The statement on Given. -/
namespace Go.Proofs.YtcipkfhpcbddiaaGreat
open Go.RowKit

set_option maxHeartbeats 1000000 in
set_option maxRecDepth 100000 in
theorem given_walk : GivenWalk := by
  intro ao cap l a c w hl hls ha1 ha2 hc1 hc2 hc
  have HSM := (show Hid _ from smallish ao cap l w hl hls hc)
  go_enter Tryz.func4, Tryz.ntmps4
  go_wp2_with fail
  refine Calls.mono HSM.out ?_
  rintro e w1 ⟨⟨r, rfl, hr⟩, hw1⟩
  subst hw1
  cases r
  · go_wp2
    go_ret
    exact ⟨rfl, Below.refl _ _⟩
  · obtain ⟨hl1, hl2⟩ := hr rfl
    go_wp2_with fail
    refine (grown_any ao cap l _ hl1 hl2 hc).mono ?_
    rintro e w2 ⟨b, x, rfl, ⟨la, lb, lc, ⟨T, o, hW, hT⟩, ⟨fs, hV, hM⟩⟩, hk2⟩
    go_wp2_with fail
    refine (given_any b x T o a c fs _ hW hV hM lc hT ⟨ha1, ha2⟩ ⟨hc1, hc2⟩).mono ?_
    rintro e w4 ⟨rfl, hk4⟩
    go_wp2
    go_ret
    refine ⟨rfl, ?_⟩
    have hk : Kept [x] w1 w4 := (hk2.mono (by simp)).trans hk4
    exact ⟨hk.os, hk.tape, hk.output, hk.size, fun k hk' => hk.block k hk' (by simp; omega)⟩

theorem given_holds : Rows.GivenSaid := givenOver given_walk

end Go.Proofs.YtcipkfhpcbddiaaGreat
