/- The listed variables of chapter 4's laws read as they are listed. Each theorem names its own conditions. -/
import Derived.Test.YtoebokeehhfboaaDoorTiedKit
import Derived.Test.YtoebokeehhfboaaDoorRows
import Derived.Test.YtoebokeehhfboaaDoorRefSubQ
namespace Go.Proofs.YtoebokeehhfboaaDoor
open Go.RowKit
set_option linter.unusedVariables false

theorem gTail : Tryd.prog.globalNamed "portcullis/scalar.tail" = some 1 := by kernel_rfl
theorem tTail : (Tryd.prog.globals[1]?).map (·.type) = some 46 := by kernel_rfl
theorem dTail : (Rows.laid_portcullis_scalar_tail : DataW Unit) = .agg (TAIL.map fun z => .lit (.int .i64 z)) := rfl
theorem gOrder : Tryd.prog.globalNamed "portcullis/portcullisref3.order" = some 0 := by kernel_rfl
theorem tOrder : (Tryd.prog.globals[0]?).map (·.type) = some 43 := by kernel_rfl
theorem dOrder : (Rows.laid_portcullis_portcullisref3_order : DataW Unit) = .agg (ORD.map fun z => .lit (.int .i64 z)) := rfl
theorem globT_of {W : World} {L : List (String × DataW Unit)} (hp : (L.all fun x => x.2.handleName?.isNone) = true) (h : laidMetH Tryd.prog L W) (hm : ("portcullis/scalar.tail", Rows.laid_portcullis_scalar_tail) ∈ L) : GlobT W :=
  range_of_laid hp h hm dTail gTail tTail Tryd.underlying46 Tryd.underlying2 (by kernel_rfl) rfl
theorem globO_of {W : World} {L : List (String × DataW Unit)} (hp : (L.all fun x => x.2.handleName?.isNone) = true) (h : laidMetH Tryd.prog L W) (hm : ("portcullis/portcullisref3.order", Rows.laid_portcullis_portcullisref3_order) ∈ L) : GlobO W :=
  range_of_laid hp h hm dOrder gOrder tOrder Tryd.underlying43 Tryd.underlying3 (by kernel_rfl) rfl

end Go.Proofs.YtoebokeehhfboaaDoor
