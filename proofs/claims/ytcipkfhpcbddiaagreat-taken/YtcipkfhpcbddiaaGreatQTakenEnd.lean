import Derived.Test.YtcipkfhpcbddiaaGreatQTakenRow
import Derived.Test.YtcipkfhpcbddiaaGreatQTkn2
import Derived.Test.YtcipkfhpcbddiaaGreatQJudges
/- The statement on Taken. -/
namespace Go.Proofs.YtcipkfhpcbddiaaGreat
open Go.RowKit

set_option maxHeartbeats 1000000 in
set_option maxRecDepth 100000 in
theorem taken_none (b x : Nat) (T : ByteArray) (o : Option Nat) (a : Int) (w : World) (hW : WorldAt w b x T o) (h0 : (rowsM T).length = 0) :
    Calls Tryz.prog 12 #[.pointer (some ⟨b, 0, none⟩), .int .i64 a] w fun e w' => e = .returned (.bool true) ∧ w' = w := by
  have hbw := hW.lt
  obtain ⟨c0, c1, c2⟩ := hW.cells
  rw [sl_eq hW.rows, h0] at c2
  obtain ⟨AO, HAO⟩ : ∃ AO, Hid (adrO o = AO) := ⟨_, rfl⟩
  rw [HAO.out] at c2
  clear h0
  go_enter Tryz.func12, Tryz.ntmps12
  go_wp2
  go_ret
  exact ⟨rfl, rfl⟩

theorem taken_any (b x : Nat) (T : ByteArray) (o : Option Nat) (a : Int) (w : World) (hW : WorldAt w b x T o) (hx : x ≠ b) (hT : Fine T) (ha : -9223372036854775808 ≤ a ∧ a ≤ 9223372036854775807) (hRp : rowsM T = [] ∨ RepFor w x (b + 1) 0 T) :
    Calls Tryz.prog 12 #[.pointer (some ⟨b, 0, none⟩), .int .i64 a] w fun e w' => e = .returned (.bool true) ∧ Kept [x] w w' := by
  by_cases h0 : (rowsM T).length = 0
  · exact (taken_none b x T o a w hW h0).mono (fun e w' h => ⟨h.1, by rw [h.2]; exact Kept.refl _ _⟩)
  · rcases hRp with h | ⟨fs, H, g, hR, _, _, hM⟩
    · rw [h] at h0; simp at h0
    · have hrw := hW.rows
      cases ho : o with
      | none =>
        rw [ho] at hrw
        have he : rowsM T = [] := hrw
        rw [he] at h0; simp at h0
      | some gr =>
        subst ho
        exact taken_some b x (rowsM T).length T (some gr) a fs H g gr w hW hx hT ha hR hM rfl rfl (by omega)

set_option maxHeartbeats 1000000 in
set_option maxRecDepth 100000 in
theorem taken_all : TakenWalk := by
  intro ao cap l a w hl hls ha1 ha2 hc
  have HSM := (show Hid _ from smallish ao cap l w hl hls hc)
  go_enter Tryz.func5, Tryz.ntmps5
  go_wp2_with fail
  refine Calls.mono HSM.out ?_
  rintro e w1 ⟨⟨r, rfl, hr⟩, hw1⟩
  subst hw1
  cases r
  · go_wp2
    go_ret
    exact ⟨rfl, Below.refl _ _⟩
  · obtain ⟨hl1, hl2⟩ := hr rfl
    go_wp2_with fail
    refine (judges_any _).mono ?_
    rintro e w0 ⟨rfl, hk0⟩
    have hc0 : l.length = 0 ∨ ∃ b off, ao = some ⟨b, off, none⟩ ∧ ChunksAt w0 b off l := by
      rcases hc with h0 | ⟨b, off, he, hcc⟩
      · exact Or.inl h0
      · exact Or.inr ⟨b, off, he, hcc.kept hk0 (by simp)⟩
    have hz0 := hk0.size
    go_wp2_with fail
    refine (grown_anyR ao cap l _ hl1 hl2 hc0).mono ?_
    rintro e w2 ⟨b, x, rfl, ⟨la, lb, lc, ⟨T, o, hW, hT, hRp⟩, -⟩, hk2⟩
    have HRp := (show Hid _ from hRp)
    clear hRp
    go_wp2_with fail
    refine (taken_any b x T o a _ hW lc hT ⟨ha1, ha2⟩ HRp.out).mono ?_
    rintro e w4 ⟨rfl, hk4⟩
    go_wp2
    go_ret
    refine ⟨rfl, ?_⟩
    have hk : Kept [x] w1 w4 := ((hk0.trans hk2).mono (by simp)).trans hk4
    exact ⟨hk.os, hk.tape, hk.output, hk.size, fun k hk' => hk.block k hk' (by simp; omega)⟩

theorem taken_holds : Rows.TakenSaid := takenOver taken_all

end Go.Proofs.YtcipkfhpcbddiaaGreat
