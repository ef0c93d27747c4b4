/- Signatures' 64 bytes as values of the program. Each theorem names its own conditions. -/
import Derived.Test.YtmadoehajapfhaaDoorProg
import Derived.Test.YtmadoehajapfhaaDoorByteKit
namespace Go.Proofs.YtmadoehajapfhaaDoor
open Go.RowKit
set_option linter.unusedVariables false

theorem Tryd.arr35 : (Tryd.prog.info? 35).map (·.size) = some 64 := by kernel_rfl
theorem sig_guard : Tryd.prog.eqGuardType Tryd.prog.depth 35 = false := by kernel_rfl
theorem sig_size {l : List UInt8} (h : l.length = 64) : (Tryd.prog.info? 35).map (·.size) = some (l.map bval).length := by rw [List.length_map, h]; exact Tryd.arr35

end Go.Proofs.YtmadoehajapfhaaDoor
