/- The walk of the document's own turn of a word. Each theorem names its own conditions. -/
import Derived.Test.YtcadfccijeodbaaDoorProg
import Derived.Test.YtcadfccijeodbaaDoorShaSpec
import Derived.Test.YtcadfccijeodbaaDoorRefRorK
namespace Go.Proofs.YtcadfccijeodbaaDoor
open Go.RowKit
set_option linter.unusedVariables false
set_option linter.unusedSimpArgs false

set_option maxHeartbeats 1000000 in
theorem ror_any (x : W32) (n : Nat) (hn : n ≤ 32) (w : World) : Calls Tryd.prog 34 #[.int .u32 (wi x), .int .u64 (n : Int)] w fun e w' => e = .returned (.int .u32 (wi (rotr x n))) ∧ w = w' := by
  have HX := Lib.hid (wi_rotr x n)
  have hr := wi_range x
  generalize wi x = z at *
  have n0 : (n : Int) ≤ 32 := by omega
  go_enter Tryd.func34, Tryd.ntmps34
  go_wp2_with fail
  go_ret
  exact ⟨congrArg (fun v => Ending.returned (.int .u32 v)) (by rw [← HX.out, IntKind.wrap_u32]), rfl⟩
theorem ror_ext (x : W32) (n : Nat) (hn : n ≤ 32) (w : World) : Calls Tryd.prog 34 #[.int .u32 (wi x), .int .u64 (n : Int)] w fun e w' => e = .returned (.int .u32 (wi (rotr x n))) ∧ Below w.heap.size w w' :=
  (ror_any x n hn w).mono fun _ _ h => ⟨h.1, by obtain ⟨_, rfl⟩ := h; exact Below.refl _ _⟩
end Go.Proofs.YtcadfccijeodbaaDoor
