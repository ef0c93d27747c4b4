/- Numbers of 32 bytes as values of the program. Each theorem names its own conditions. -/
import Derived.Test.YtcadfccijeodbaaDoorProg
import Derived.Test.YtcadfccijeodbaaDoorByteKit
namespace Go.Proofs.YtcadfccijeodbaaDoor
open Go.RowKit
set_option linter.unusedVariables false
set_option linter.unusedSimpArgs false

theorem Tryd.arr26 : (Tryd.prog.info? 26).map (·.size) = some 32 := by kernel_rfl
theorem num_info : Tryd.prog.info? 5 = some (Tryd.prog.info? 5).get! := by kernel_rfl
theorem num_cells : Tryd.prog.cellsOf 5 = 1 := by kernel_rfl
theorem num_guard : Tryd.prog.eqGuardType Tryd.prog.depth 26 = false := by kernel_rfl
theorem smL_size (n : UInt8) : (Tryd.prog.info? 26).map (·.size) = some ((smL n).map bval).length := by rw [List.length_map, smL_length]; exact Tryd.arr26
theorem zer_size : (Tryd.prog.info? 26).map (·.size) = some (zer.map bval).length := by rw [List.length_map, zer_length]; exact Tryd.arr26
theorem build_zer (w : World) : (Instr.build 26 #[]).run Tryd.prog w = .ok (.agg (zer.map bval).toArray) w := by
  simp [Instr.build, Tryd.zeroValue26]
  rfl
theorem build_one (w : World) : (Instr.build 26 #[(0, .int .u8 1)]).run Tryd.prog w = .ok (.agg ((smL 1).map bval).toArray) w := by
  simp [Instr.build, Tryd.zeroValue26]
  rfl
theorem num_size {l : List UInt8} (h : l.length = 32) : (Tryd.prog.info? 26).map (·.size) = some (l.map bval).length := by rw [List.length_map, h]; exact Tryd.arr26

end Go.Proofs.YtcadfccijeodbaaDoor
