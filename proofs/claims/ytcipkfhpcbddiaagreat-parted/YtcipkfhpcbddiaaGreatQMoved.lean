import Derived.Test.YtcipkfhpcbddiaaGreatG06
/- Package metaproofkeep: moved. -/
namespace Go.Proofs.YtcipkfhpcbddiaaGreat
open Go.RowKit

theorem faultEql (r : Int) (s : ByteArray) (l c : Int) (w : World) : (binOp .eql 41 (.agg #[.int .i64 r, .string s, .int .i64 l, .int .i64 c]) (.agg #[.int .i64 r, .string s, .int .i64 l, .int .i64 c])).run Tryz.prog w = .ok (.bool true) w := by
  rw [run_eql_struct, show (10000 : Nat) = 9997 + 3 from rfl, faultEq]; simp
attribute [local go_sem] faultEql

set_option maxHeartbeats 800000 in
theorem moved_zero (f : ByteArray) (l c δ : Int) (w : World) :
    Calls Tryz.prog 19 #[.agg #[.int .i64 0, .string f, .int .i64 l, .int .i64 c], .agg #[.int .i64 0, .string f, .int .i64 l, .int .i64 c], .int .i64 δ] w fun e w' => e = .returned (.bool true) ∧ Kept [] w w' := by
  go_enter Tryz.func19, Tryz.ntmps19
  go_wp2
  go_ret
  exact ⟨rfl, ((Kept.refl _ _).alloc _).alloc _⟩
set_option maxHeartbeats 800000 in
theorem moved_any (r : Int) (f : ByteArray) (l c δ : Int) (w : World) (hr : (r == 0) = false) (hl : -1000000000 ≤ l ∧ l ≤ 1000000000) (hδ : -1000000000 ≤ δ ∧ δ ≤ 1000000000) :
    Calls Tryz.prog 19 #[.agg #[.int .i64 r, .string f, .int .i64 l, .int .i64 c], .agg #[.int .i64 r, .string f, .int .i64 (l + δ), .int .i64 c], .int .i64 δ] w fun e w' => e = .returned (.bool true) ∧ Kept [] w w' := by
  have hw : IntKind.i64.wrap (l + δ) = l + δ := by rw [IntKind.wrap_i64]; omega
  go_enter Tryz.func19, Tryz.ntmps19
  go_wp2
  go_ret
  exact ⟨rfl, ((Kept.refl _ _).alloc _).alloc _⟩

end Go.Proofs.YtcipkfhpcbddiaaGreat
