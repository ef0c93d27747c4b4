/- Lemmas. -/
import Derived.Test.YthafgicndklgfaaGreatDoorQy05
namespace Go.Proofs.YthafgicndklgfaaGreatDoor
set_option linter.unusedVariables false
set_option linter.unusedSimpArgs false
open Go.RowKit
theorem I64_wf {n : Int} (h : (Lit.int .i64 n).wf = true) : I64 n := by
 have hb : -9223372036854775808 ≤ n ∧ n ≤ 9223372036854775807 := by simpa [Lit.wf, IntKind.min, IntKind.max, IntKind.signed, IntKind.bits] using h
 exact hb
