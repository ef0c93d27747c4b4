/- Signatures' 64 bytes as values of the program. Each theorem names its own conditions. -/
import Derived.Test.YtjnnhkodkbhbbaaProg
import Derived.Test.YtjnnhkodkbhbbaaByteKit
namespace Go.Proofs.Ytjnnhkodkbhbbaa
open Go.RowKit
set_option linter.unusedVariables false

theorem Try.arr68 : (Try.prog.info? 68).map (·.size) = some 64 := by kernel_rfl
theorem sig_guard : Try.prog.eqGuardType Try.prog.depth 68 = false := by kernel_rfl
theorem sig_size {l : List UInt8} (h : l.length = 64) : (Try.prog.info? 68).map (·.size) = some (l.map bval).length := by rw [List.length_map, h]; exact Try.arr68

end Go.Proofs.Ytjnnhkodkbhbbaa
