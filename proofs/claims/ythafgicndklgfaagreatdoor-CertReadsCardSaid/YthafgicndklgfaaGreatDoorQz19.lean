/- Texts that belong together, one behind the other. -/
import Derived.Test.YthafgicndklgfaaGreatDoorQz05
namespace Go.Proofs.YthafgicndklgfaaGreatDoor
set_option linter.unusedVariables false
set_option linter.unusedSimpArgs false
open Go.RowKit
theorem build_stop1 (id : Int) (w : World) : (Instr.build 39 #[(0, .int .i64 id)]).run Tryz.prog w = .ok (.agg (stopC id z64).toArray) w := by
 refine run_build w _ _ _ ?_
 have e := fill_layV (place := fun i => (#[(0, 1), (1, 64)] : Array (Nat × Nat))[i]?) (i := 0) (off := 0) (n := 1) (pre := []) (mid := [.int .i64 0]) (post := z64.map bval) (new := [.int .i64 id]) (rest := []) (v := .int .i64 id) rfl rfl rfl rfl rfl
 rw [Instr.fill] at e
 refine Eq.trans ?_ e
 kernel_rfl
end Go.Proofs.YthafgicndklgfaaGreatDoor
