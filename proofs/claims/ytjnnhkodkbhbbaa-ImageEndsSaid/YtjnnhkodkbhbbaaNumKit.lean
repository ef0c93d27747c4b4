/- Numbers of 32 bytes as values of the program. Each theorem names its own conditions. -/
import Derived.Test.YtjnnhkodkbhbbaaProg
import Derived.Test.YtjnnhkodkbhbbaaByteKit
namespace Go.Proofs.Ytjnnhkodkbhbbaa
open Go.RowKit
set_option linter.unusedVariables false
set_option linter.unusedSimpArgs false

theorem Try.arr34 : (Try.prog.info? 34).map (·.size) = some 32 := by kernel_rfl
theorem num_info : Try.prog.info? 5 = some (Try.prog.info? 5).get! := by kernel_rfl
theorem num_cells : Try.prog.cellsOf 5 = 1 := by kernel_rfl
theorem num_guard : Try.prog.eqGuardType Try.prog.depth 34 = false := by kernel_rfl
theorem smL_size (n : UInt8) : (Try.prog.info? 34).map (·.size) = some ((smL n).map bval).length := by rw [List.length_map, smL_length]; exact Try.arr34
theorem zer_size : (Try.prog.info? 34).map (·.size) = some (zer.map bval).length := by rw [List.length_map, zer_length]; exact Try.arr34
theorem build_zer (w : World) : (Instr.build 34 #[]).run Try.prog w = .ok (.agg (zer.map bval).toArray) w := by
  simp [Instr.build, Try.zeroValue34]
  rfl
theorem build_one (w : World) : (Instr.build 34 #[(0, .int .u8 1)]).run Try.prog w = .ok (.agg ((smL 1).map bval).toArray) w := by
  simp [Instr.build, Try.zeroValue34]
  rfl
theorem num_size {l : List UInt8} (h : l.length = 32) : (Try.prog.info? 34).map (·.size) = some (l.map bval).length := by rw [List.length_map, h]; exact Try.arr34

end Go.Proofs.Ytjnnhkodkbhbbaa
