/- The listed variables of chapter 5's laws read as they are listed. Each theorem names its own conditions. -/
import Derived.Test.YtmadoehajapfhaaDoorTiedKit
import Derived.Test.YtmadoehajapfhaaDoorRows
import Derived.Test.YtmadoehajapfhaaDoorShaMix
import Derived.Test.YtmadoehajapfhaaDoorRefSha
namespace Go.Proofs.YtmadoehajapfhaaDoor
open Go.RowKit
set_option linter.unusedVariables false

theorem gRoots : Tryd.prog.globalNamed "portcullis/sha.roots" = some 2 := by kernel_rfl
theorem tRoots : (Tryd.prog.globals[2]?).map (·.type) = some 42 := by kernel_rfl
theorem dRoots : (Rows.laid_portcullis_sha_roots : DataW Unit) = .agg ((ws K256).map fun z => .lit (.int .u32 z)) := by kernel_rfl
theorem gK256 : Tryd.prog.globalNamed "portcullis/portcullisref1.k256" = some 0 := by kernel_rfl
theorem tK256 : (Tryd.prog.globals[0]?).map (·.type) = some 42 := by kernel_rfl
theorem dK256 : (Rows.laid_portcullis_portcullisref1_k256 : DataW Unit) = .agg ((ws K256).map fun z => .lit (.int .u32 z)) := by kernel_rfl
theorem globR_of {W : World} {L : List (String × DataW Unit)} (hp : (L.all fun x => x.2.handleName?.isNone) = true) (h : laidMetH Tryd.prog L W) (hm : ("portcullis/sha.roots", Rows.laid_portcullis_sha_roots) ∈ L) : GlobR W :=
  range_of_laid hp h hm dRoots gRoots tRoots Tryd.underlying42 Tryd.underlying39 (by kernel_rfl) (by rw [ws_length]; rfl)
theorem globK_of {W : World} {L : List (String × DataW Unit)} (hp : (L.all fun x => x.2.handleName?.isNone) = true) (h : laidMetH Tryd.prog L W) (hm : ("portcullis/portcullisref1.k256", Rows.laid_portcullis_portcullisref1_k256) ∈ L) : GlobK W :=
  range_of_laid hp h hm dK256 gK256 tK256 Tryd.underlying42 Tryd.underlying39 (by kernel_rfl) (by rw [ws_length]; rfl)
theorem int_both {n : Int} (h : (Lit.int .i64 n).wf = true) : -9223372036854775808 ≤ n ∧ n ≤ 9223372036854775807 := by simpa [Lit.wf, IntKind.min, IntKind.max, IntKind.signed, IntKind.bits] using h
theorem int_lo {n : Int} (h : (Lit.int .i64 n).wf = true) : -9223372036854775808 ≤ n := (int_both h).1
theorem int_hi {n : Int} (h : (Lit.int .i64 n).wf = true) : n ≤ 9223372036854775807 := (int_both h).2

end Go.Proofs.YtmadoehajapfhaaDoor
