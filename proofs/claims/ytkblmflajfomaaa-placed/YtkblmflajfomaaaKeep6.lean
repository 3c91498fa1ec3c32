/- Package metaproofkeep: Stays. -/
import Derived.Test.YtkblmflajfomaaaKeep5
namespace Go.Proofs.Ytkblmflajfomaaa
open Go.RowKit

theorem smallish (ao : Option Addr) (cap : Nat) (l : List ByteArray) (w : World) (hl : l.length ≤ 140737488351232) (hls : ∀ x, x ∈ l → x.size ≤ 140737488351232) (hc : l.length = 0 ∨ ∃ b off, ao = some ⟨b, off, none⟩ ∧ ChunksAt w b off l) :
    Calls Try.prog 6 #[.slice ao l.length cap] w fun e w' => (∃ r, e = .returned (.bool r) ∧ (r = true → l.length ≤ 1073741824 ∧ ∀ i, i < l.length → (l.getD i ⟨#[]⟩).size ≤ 1073741824)) ∧ w' = w := by
  rcases hc with h0 | ⟨b, off, rfl, hcc⟩
  · rw [h0]
    refine (small_none ao cap w).mono ?_
    rintro e w1 ⟨rfl, rfl⟩
    exact ⟨⟨true, rfl, fun _ => ⟨by omega, fun i hi => by omega⟩⟩, rfl⟩
  · exact small_any b off cap l w hl hls hcc

set_option maxHeartbeats 1000000 in
set_option maxRecDepth 100000 in
theorem stays_any (X : Texts) (ao : Option Addr) (cap : Nat) (l : List ByteArray) (a d : ByteArray) (w : World) (hl : l.length ≤ 140737488351232) (hls : ∀ x, x ∈ l → x.size ≤ 140737488351232) (has : a.size ≤ 140737488351232) (hds : d.size ≤ 140737488351232)
    (hc : l.length = 0 ∨ ∃ b off, ao = some ⟨b, off, none⟩ ∧ ChunksAt w b off l) :
    Calls Try.prog 3 #[.slice ao l.length cap, .string a, .string d] w fun e w' => e = .returned (.bool true) ∧ Below w.heap.size w w' := by
  have HSM := (show Hid _ from smallish ao cap l w hl hls hc)
  go_enter Try.func3, Try.ntmps3
  go_wp2_with fail
  refine Calls.mono HSM.out ?_
  rintro e w1 ⟨⟨r, rfl, hr⟩, hw1⟩
  subst hw1
  cases r
  · go_wp2
    go_ret
    exact ⟨rfl, Below.refl _ _⟩
  · obtain ⟨hl1, hl2⟩ := hr rfl
    by_cases ha : 1073741824 < a.size
    · go_wp2
      go_ret
      exact ⟨rfl, Below.refl _ _⟩
    · by_cases hd : 1073741824 < d.size
      · go_wp2
        go_ret
        exact ⟨rfl, Below.refl _ _⟩
      · go_wp2_with fail
        refine (firstly_any _).mono ?_
        rintro e w0 ⟨rfl, hk0⟩
        have hc0 : l.length = 0 ∨ ∃ b off, ao = some ⟨b, off, none⟩ ∧ ChunksAt w0 b off l := by
          rcases hc with h0 | ⟨b, off, he, hcc⟩
          · exact Or.inl h0
          · exact Or.inr ⟨b, off, he, hcc.kept hk0 (by simp)⟩
        go_wp2_with fail
        refine (grown_any X ao cap l _ hl1 hl2 hc0).mono ?_
        rintro e w2 ⟨b, x, rfl, ⟨la, lb, lc, ⟨T, hW, hT⟩, ⟨fs, r, hV, hM⟩⟩, hk2⟩
        have hz0 := hk0.size
        go_wp2_with fail
        refine (stay_any X b x T a d fs r _ hW hV lc hM hT (by omega) (by omega)).mono ?_
        rintro e w4 ⟨rfl, hk4⟩
        go_wp2
        go_ret
        refine ⟨rfl, ?_⟩
        have hk : Kept [x] w1 w4 := ((hk0.trans hk2).mono (by simp)).trans hk4
        exact ⟨hk.os, hk.tape, hk.output, hk.size, fun k hk' => hk.block k hk' (by simp; omega)⟩

end Go.Proofs.Ytkblmflajfomaaa
