/- Numbers of 32 bytes as values of the program. Each theorem names its own conditions. -/
import Derived.Test.YtdjdalaghfknoaaProg
import Derived.Test.YtdjdalaghfknoaaByteKit
namespace Go.Proofs.Ytdjdalaghfknoaa
open Go.RowKit
set_option linter.unusedVariables false
set_option linter.unusedSimpArgs false

theorem Try.arr23 : (Try.prog.info? 23).map (·.size) = some 32 := by kernel_rfl
theorem num_info : Try.prog.info? 5 = some (Try.prog.info? 5).get! := by kernel_rfl
theorem num_cells : Try.prog.cellsOf 5 = 1 := by kernel_rfl
theorem num_guard : Try.prog.eqGuardType Try.prog.depth 23 = false := by kernel_rfl
theorem smL_size (n : UInt8) : (Try.prog.info? 23).map (·.size) = some ((smL n).map bval).length := by rw [List.length_map, smL_length]; exact Try.arr23
theorem zer_size : (Try.prog.info? 23).map (·.size) = some (zer.map bval).length := by rw [List.length_map, zer_length]; exact Try.arr23
theorem build_zer (w : World) : (Instr.build 23 #[]).run Try.prog w = .ok (.agg (zer.map bval).toArray) w := by
  simp [Instr.build, Try.zeroValue23]
  rfl
theorem build_one (w : World) : (Instr.build 23 #[(0, .int .u8 1)]).run Try.prog w = .ok (.agg ((smL 1).map bval).toArray) w := by
  simp [Instr.build, Try.zeroValue23]
  rfl
theorem num_size {l : List UInt8} (h : l.length = 32) : (Try.prog.info? 23).map (·.size) = some (l.map bval).length := by rw [List.length_map, h]; exact Try.arr23

end Go.Proofs.Ytdjdalaghfknoaa
