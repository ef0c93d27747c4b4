/- What arrays of words of 64 bits, and blocks of 128 bytes, take. -/
import Derived.Test.YtmadoehajapfhaaDoorProg
import Derived.Test.YtmadoehajapfhaaDoorArrKit
import Derived.Test.YtmadoehajapfhaaDoorByteKit
import Derived.ProofKit
namespace Go.Proofs.YtmadoehajapfhaaDoor
open Go.RowKit

theorem Tryd.arr56 : (Tryd.prog.info? 56).map (·.size) = some 8 := by kernel_rfl
theorem Tryd.arr57 : (Tryd.prog.info? 57).map (·.size) = some 80 := by kernel_rfl

/-- Noughts, as new cells. -/
def zarr80 : Array Value := (ints .u64 (List.replicate 80 0)).toArray
def zarr128 : Array Value := (ints .u8 (List.replicate 128 0)).toArray
@[simp] theorem zero_words80 (w : World) : (zeroValue 57).run Tryd.prog w = .ok (.agg zarr80) w := by kernel_rfl
@[simp] theorem zero_block128 (w : World) : (zeroValue 62).run Tryd.prog w = .ok (.agg zarr128) w := by kernel_rfl

end Go.Proofs.YtmadoehajapfhaaDoor
