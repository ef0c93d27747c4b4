/- What a byte takes. -/
import Derived.Test.YtcadfccijeodbaaDoorProg
import Derived.ProofKit
namespace Go.Proofs.YtcadfccijeodbaaDoor

theorem Tryd.info5 : (Tryd.prog.info? 5).map (fun i => (i.zero, i.size, i.bytes)) = some (some (.int .u8 0), 1, 1) := by kernel_rfl

end Go.Proofs.YtcadfccijeodbaaDoor
