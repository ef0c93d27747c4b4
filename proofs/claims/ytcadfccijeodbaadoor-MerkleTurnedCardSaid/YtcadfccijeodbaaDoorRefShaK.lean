/- What the walks of RefSha need and no function of the document. Each theorem names its own conditions. -/
import Derived.Test.YtcadfccijeodbaaDoorRefRorK
import Derived.Test.YtcadfccijeodbaaDoorShaSch
import Derived.Test.YtcadfccijeodbaaDoorDetWord
import Derived.Test.YtcadfccijeodbaaDoorGlobKit
import Derived.Test.YtcadfccijeodbaaDoorRefPadK
import Derived.Test.YtcadfccijeodbaaDoorNumKit
import Derived.Test.YtcadfccijeodbaaDoorMsgKit
import Derived.Deep.CutRange
import Derived.Deep.RegionWith
import Derived.StillTailTactics
import Derived.Deep.QuietTactic
import Derived.BigQuiet
namespace Go.Proofs.YtcadfccijeodbaaDoor
open Go.RowKit
set_option linter.unusedVariables false
set_option linter.unusedSimpArgs false

theorem outB_getD (h : List W32) (i : Nat) (hi : i < 32) : (outB h).getD i 0 = UInt8.ofNat ((h.getD (i / 4) 0#32).toNat / 2 ^ (24 - 8 * (i % 4)) % 256) := by
  unfold outB
  simp [List.getD, hi]
theorem sha_and_u32_255 (a : W32) : bits .and .u32 (wi a) 255 = ((a.toNat % 256 : Nat) : Int) := by
  have h : (255 : Int) = wi 255#32 := rfl
  rw [h, wi_and]
  unfold wi
  rw [BitVec.toNat_and]
  have h2 : (255#32).toNat = 2 ^ 8 - 1 := by decide
  rw [h2, Nat.and_two_pow_sub_one_eq_mod]
theorem h256_vals : ints .u32 (ws H256) = [.int .u32 1779033703, .int .u32 3144134277, .int .u32 1013904242, .int .u32 2773480762, .int .u32 1359893119, .int .u32 2600822924, .int .u32 528734635, .int .u32 1541459225] := rfl

end Go.Proofs.YtcadfccijeodbaaDoor
