/- The listed variables of chapter 6's laws read as they are listed. Each theorem names its own conditions. -/
import Derived.Test.YtmadoehajapfhaaDoorTiedKit
import Derived.Test.YtmadoehajapfhaaDoorRows
import Derived.Test.YtmadoehajapfhaaDoorShbMix
import Derived.Test.YtmadoehajapfhaaDoorRefShb
namespace Go.Proofs.YtmadoehajapfhaaDoor
open Go.RowKit
set_option linter.unusedVariables false

theorem gRootsQ : Tryd.prog.globalNamed "portcullis/shb.roots" = some 3 := by kernel_rfl
theorem tRootsQ : (Tryd.prog.globals[3]?).map (·.type) = some 57 := by kernel_rfl
theorem dRootsQ : (Rows.laid_portcullis_shb_roots : DataW Unit) = .agg ((qs K512).map fun z => .lit (.int .u64 z)) := by kernel_rfl
theorem gK256Q : Tryd.prog.globalNamed "portcullis/portcullisref1.k512" = some 1 := by kernel_rfl
theorem tK256Q : (Tryd.prog.globals[1]?).map (·.type) = some 57 := by kernel_rfl
theorem dK256Q : (Rows.laid_portcullis_portcullisref1_k512 : DataW Unit) = .agg ((qs K512).map fun z => .lit (.int .u64 z)) := by kernel_rfl
theorem globR_ofQ {W : World} {L : List (String × DataW Unit)} (hp : (L.all fun x => x.2.handleName?.isNone) = true) (h : laidMetH Tryd.prog L W) (hm : ("portcullis/shb.roots", Rows.laid_portcullis_shb_roots) ∈ L) : GlobRQ W :=
  range_of_laid hp h hm dRootsQ gRootsQ tRootsQ Tryd.underlying57 Tryd.underlying55 (by kernel_rfl) (by rw [qs_length]; rfl)
theorem globK_ofQ {W : World} {L : List (String × DataW Unit)} (hp : (L.all fun x => x.2.handleName?.isNone) = true) (h : laidMetH Tryd.prog L W) (hm : ("portcullis/portcullisref1.k512", Rows.laid_portcullis_portcullisref1_k512) ∈ L) : GlobK5 W :=
  range_of_laid hp h hm dK256Q gK256Q tK256Q Tryd.underlying57 Tryd.underlying55 (by kernel_rfl) (by rw [qs_length]; rfl)
theorem int_bothQ {n : Int} (h : (Lit.int .i64 n).wf = true) : -9223372036854775808 ≤ n ∧ n ≤ 9223372036854775807 := by simpa [Lit.wf, IntKind.min, IntKind.max, IntKind.signed, IntKind.bits] using h
theorem int_loQ {n : Int} (h : (Lit.int .i64 n).wf = true) : -9223372036854775808 ≤ n := (int_bothQ h).1
theorem int_hiQ {n : Int} (h : (Lit.int .i64 n).wf = true) : n ≤ 9223372036854775807 := (int_bothQ h).2

end Go.Proofs.YtmadoehajapfhaaDoor
