/- The walk of package pieces' Of. Each theorem names its own conditions. -/
import Derived.Test.YtmadoehajapfhaaDoorPcsFill
namespace Go.Proofs.YtmadoehajapfhaaDoor
open Go.RowKit
set_option linter.unusedVariables false
set_option linter.unusedSimpArgs false

theorem msg_size : (Tryd.prog.info? 48).map (·.size) = some (#[Value.slice none 0 0, Value.slice none 0 0]).size := by kernel_rfl

set_option maxRecDepth 100000 in
set_option maxHeartbeats 4000000 in
theorem of_any (a : Option Addr) (n cap : Nat) (w : World) :
    Calls Tryd.prog 22 #[.slice a n cap] w fun e w' => e = .returned (.agg #[.slice none 0 0, .slice a n cap]) ∧ Below w.heap.size w w' := by
  go_enter Tryd.func22, Tryd.ntmps22
  go_wp2_with fail
  refine bodyPost_ret (results_cell_row rfl _ _ w.heap.size _ _ _ _ rfl (Blk.made w [.slice none 0 0, .slice a n cap] 48) Tryd.underlying48 rfl msg_size) rfl ?_
  exact ⟨rfl, Ext.alloc w (.cells #[.slice none 0 0, .slice a n cap] 48)⟩

end Go.Proofs.YtmadoehajapfhaaDoor
