/- The walk of the document's own turn of a word to the left, and of four bytes as a word. Each theorem names its own conditions. -/
import Derived.Test.YtjnnhkodkbhbbaaProg
import Derived.Test.YtjnnhkodkbhbbaaChaSpec
import Derived.Test.YtjnnhkodkbhbbaaDetWord
import Derived.Test.YtjnnhkodkbhbbaaDetConv
import Derived.Test.YtjnnhkodkbhbbaaDetTail
import Derived.Test.YtjnnhkodkbhbbaaRefRolK
namespace Go.Proofs.Ytjnnhkodkbhbbaa
open Go.RowKit
set_option linter.unusedVariables false
set_option linter.unusedSimpArgs false

set_option maxHeartbeats 1000000 in
theorem rol_any (x : W32) (n : Nat) (hn : n ≤ 32) (w : World) : Calls Try.prog 71 #[.int .u32 (wi x), .int .u64 (n : Int)] w fun e w' => e = .returned (.int .u32 (wi (rotl x n))) ∧ w = w' := by
  have HX := Lib.hid (wi_rotl x n)
  have hr := wi_range x
  generalize wi x = z at *
  have n0 : (n : Int) ≤ 32 := by omega
  go_enter Try.func71, Try.ntmps71
  go_wp2_with fail
  go_ret
  exact ⟨congrArg (fun v => Ending.returned (.int .u32 v)) (by rw [← HX.out, IntKind.wrap_u32]), rfl⟩
theorem rol_ext (x : W32) (n : Nat) (hn : n ≤ 32) (w : World) : Calls Try.prog 71 #[.int .u32 (wi x), .int .u64 (n : Int)] w fun e w' => e = .returned (.int .u32 (wi (rotl x n))) ∧ Below w.heap.size w w' :=
  (rol_any x n hn w).mono fun _ _ h => ⟨h.1, by obtain ⟨_, rfl⟩ := h; exact Below.refl _ _⟩
end Go.Proofs.Ytjnnhkodkbhbbaa
