/- Signatures' 64 bytes as values of the program. Each theorem names its own conditions. -/
import Derived.Test.YtldpmphecgffcaaProg
import Derived.Test.YtldpmphecgffcaaByteKit
namespace Go.Proofs.Ytldpmphecgffcaa
open Go.RowKit
set_option linter.unusedVariables false

theorem Try.arr28 : (Try.prog.info? 28).map (·.size) = some 64 := by kernel_rfl
theorem sig_guard : Try.prog.eqGuardType Try.prog.depth 28 = false := by kernel_rfl
theorem sig_size {l : List UInt8} (h : l.length = 64) : (Try.prog.info? 28).map (·.size) = some (l.map bval).length := by rw [List.length_map, h]; exact Try.arr28

end Go.Proofs.Ytldpmphecgffcaa
