/- Texts that belong together, one behind the other. -/
import Derived.LaidMore
import Derived.OpenShut
import Derived.Stop.Joined
import Derived.SevenTiedAt
import Derived.WalkKit
import Derived.ProofKit
import Derived.Deep.Slices
import Derived.Laws.Cover2
import Derived.WalkSpells
import Derived.WalkLawsBesides
import Derived.Lib.Hide
import Derived.Deep.QuietTactic
import Derived.BigQuiet
import Derived.Deep.RegionHeld3
import Derived.Deep.AppendLies
import Derived.OneCell
import Derived.Deep.MidRow
import Derived.WalkMore
import Derived.Deep.CutRange
import Derived.Deep.RegionWith
import Derived.StillTailTactics
import Derived.Laws.ResultCell
import Derived.Deep.Quiet
import Derived.OrdersHeld
import Derived.Deep.RegionHeld
import Derived.ChangeKeysEq
import Derived.Laws.Entries
import Derived.Great.BuildSlice
import Derived.ScopeJumps
import Derived.Control
import Derived.Test.YtckggbkoabmjiaaDoorRows
import Derived.KernelRfl
import Derived.Laws.Tables
import Derived.Test.YtckggbkoabmjiaaDoorQz01
import Derived.Test.YtckggbkoabmjiaaDoorQz16
import Derived.Test.YtckggbkoabmjiaaDoorQz17
namespace Go.Proofs.YtckggbkoabmjiaaDoor
set_option linter.unusedVariables false
set_option linter.unusedSimpArgs false
open Go.RowKit
theorem gK256Q : Tryd.prog.globalNamed "portcullis/portcullisref1.k512" = some 5 := by kernel_rfl
theorem tK256Q : (Tryd.prog.globals[5]?).map (·.type) = some 118 := by kernel_rfl
theorem dK256Q : (Rows.laid_portcullis_portcullisref1_k512 : DataW Unit) = .agg ((qs K512).map fun z => .lit (.int .u64 z)) := by kernel_rfl
theorem globK_ofQ {W : World} {L : List (String × DataW Unit)} (hp : (L.all fun x => x.2.handleName?.isNone) = true) (h : laidMetH Tryd.prog L W) (hm : ("portcullis/portcullisref1.k512", Rows.laid_portcullis_portcullisref1_k512) ∈ L) : GlobK5 W :=
 range_of_laid hp h hm dK256Q gK256Q tK256Q Tryd.underlying118 Tryd.underlying95 (by kernel_rfl) (by rw [qs_length]; rfl)
theorem gCurX : Tryd.prog.globalNamed "portcullis/portcullisref3.baseX" = some 0 := by kernel_rfl
theorem tCurX : (Tryd.prog.globals[0]?).map (·.type) = some 54 := by kernel_rfl
theorem dCurX : (Rows.laid_portcullis_portcullisref3_baseX : DataW Unit) = .agg (bxL.map fun z => .lit (.int .i64 z)) := rfl
theorem gCurY : Tryd.prog.globalNamed "portcullis/portcullisref3.baseY" = some 1 := by kernel_rfl
theorem tCurY : (Tryd.prog.globals[1]?).map (·.type) = some 54 := by kernel_rfl
theorem dCurY : (Rows.laid_portcullis_portcullisref3_baseY : DataW Unit) = .agg (byL.map fun z => .lit (.int .i64 z)) := rfl
theorem globX_of {W : World} {L : List (String × DataW Unit)} (hp : (L.all fun x => x.2.handleName?.isNone) = true) (h : laidMetH Tryd.prog L W) (hm : ("portcullis/portcullisref3.baseX", Rows.laid_portcullis_portcullisref3_baseX) ∈ L) : GlobX W :=
 range_of_laid hp h hm dCurX gCurX tCurX Tryd.underlying54 Tryd.underlying3 (by kernel_rfl) rfl
theorem globY_of {W : World} {L : List (String × DataW Unit)} (hp : (L.all fun x => x.2.handleName?.isNone) = true) (h : laidMetH Tryd.prog L W) (hm : ("portcullis/portcullisref3.baseY", Rows.laid_portcullis_portcullisref3_baseY) ∈ L) : GlobY W :=
 range_of_laid hp h hm dCurY gCurY tCurY Tryd.underlying54 Tryd.underlying3 (by kernel_rfl) rfl
end Go.Proofs.YtckggbkoabmjiaaDoor
