import Derived.Test.YtkancbaldeeijaaGreatQStaysRow
import Derived.Test.YtkancbaldeeijaaGreatQStay
import Derived.Test.YtkancbaldeeijaaGreatQFirst
/- The statement on Stays. -/
namespace Go.Proofs.YtkancbaldeeijaaGreat
open Go.RowKit

set_option maxHeartbeats 1000000 in
set_option maxRecDepth 100000 in
theorem stays_all : StaysWalk := by
  intro ao cap l a d w hl hls has hds hc
  have HSM := (show Hid _ from smallish ao cap l w hl hls hc)
  go_enter Tryz.func3, Tryz.ntmps3
  go_wp2_with fail
  refine Calls.mono HSM.out ?_
  rintro e w1 ⟨⟨r, rfl, hr⟩, hw1⟩
  subst hw1
  cases r
  · go_wp2
    go_ret
    exact ⟨rfl, Below.refl _ _⟩
  · obtain ⟨hl1, hl2⟩ := hr rfl
    by_cases ha : 1073741824 < a.size
    · go_wp2
      go_ret
      exact ⟨rfl, Below.refl _ _⟩
    · by_cases hd : 1073741824 < d.size
      · go_wp2
        go_ret
        exact ⟨rfl, Below.refl _ _⟩
      · go_wp2_with fail
        refine (firstly_any _).mono ?_
        rintro e w0 ⟨rfl, hk0⟩
        have hc0 : l.length = 0 ∨ ∃ b off, ao = some ⟨b, off, none⟩ ∧ ChunksAt w0 b off l := by
          rcases hc with h0 | ⟨b, off, he, hcc⟩
          · exact Or.inl h0
          · exact Or.inr ⟨b, off, he, hcc.kept hk0 (by simp)⟩
        go_wp2_with fail
        refine (grown_any ao cap l _ hl1 hl2 hc0).mono ?_
        rintro e w2 ⟨b, x, rfl, ⟨la, lb, lc, ⟨T, o, hW, hT⟩, ⟨fs, hV, hM⟩⟩, hk2⟩
        have hz0 := hk0.size
        go_wp2_with fail
        refine (stay_any b x T a d o fs _ hW hV lc hM hT (by omega) (by omega)).mono ?_
        rintro e w4 ⟨rfl, hk4⟩
        go_wp2
        go_ret
        refine ⟨rfl, ?_⟩
        have hk : Kept [x] w1 w4 := ((hk0.trans hk2).mono (by simp)).trans hk4
        exact ⟨hk.os, hk.tape, hk.output, hk.size, fun k hk' => hk.block k hk' (by simp; omega)⟩

theorem stays_holds : Rows.StaysSaid := staysOver stays_all

end Go.Proofs.YtkancbaldeeijaaGreat
