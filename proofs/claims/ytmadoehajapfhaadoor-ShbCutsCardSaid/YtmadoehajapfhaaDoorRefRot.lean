/- The walk of the document's own turn of a word of 64 bits. Each theorem names its own conditions. -/
import Derived.Test.YtmadoehajapfhaaDoorProg
import Derived.Test.YtmadoehajapfhaaDoorShbSpec
namespace Go.Proofs.YtmadoehajapfhaaDoor
open Go.RowKit
set_option linter.unusedVariables false
set_option linter.unusedSimpArgs false

set_option maxHeartbeats 1000000 in
theorem rot_any (x : Q64) (n : Nat) (hn : n ≤ 64) (w : World) : Calls Tryd.prog 27 #[.int .u64 (qi x), .int .u64 (n : Int)] w fun e w' => e = .returned (.int .u64 (qi (rotq x n))) ∧ w = w' := by
  have HX := Lib.hid (qi_rotq x n)
  have hr := qi_range x
  generalize qi x = z at *
  have n0 : (n : Int) ≤ 64 := by omega
  go_enter Tryd.func27, Tryd.ntmps27
  go_wp2_with fail
  go_ret
  exact ⟨congrArg (fun v => Ending.returned (.int .u64 v)) (by rw [← HX.out, IntKind.wrap_u64]), rfl⟩
theorem rot_ext (x : Q64) (n : Nat) (hn : n ≤ 64) (w : World) : Calls Tryd.prog 27 #[.int .u64 (qi x), .int .u64 (n : Int)] w fun e w' => e = .returned (.int .u64 (qi (rotq x n))) ∧ Below w.heap.size w w' :=
  (rot_any x n hn w).mono fun _ _ h => ⟨h.1, by obtain ⟨_, rfl⟩ := h; exact Below.refl _ _⟩

end Go.Proofs.YtmadoehajapfhaaDoor
