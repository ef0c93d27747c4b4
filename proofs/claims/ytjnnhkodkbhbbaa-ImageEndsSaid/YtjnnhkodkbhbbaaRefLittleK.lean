/- What the walks of RefLittle need and no function of the document. Each theorem names its own conditions. -/
import Derived.Test.YtjnnhkodkbhbbaaProg
import Derived.Test.YtjnnhkodkbhbbaaChaSpec
import Derived.Test.YtjnnhkodkbhbbaaFormKit
import Derived.Deep.RegionWith
import Derived.BigQuiet
namespace Go.Proofs.Ytjnnhkodkbhbbaa
open Go.RowKit
set_option linter.unusedVariables false
set_option linter.unusedSimpArgs false

theorem or_u32L (a b : Nat) (ha : a < 4294967296) (hb : b < 4294967296) : bits .or .u32 (a : Int) (b : Int) = ((a ||| b : Nat) : Int) := by
  have e1 : (BitVec.ofInt 32 (a : Int)).toNat = a := by rw [BitVec.toNat_ofInt]; omega
  have e2 : (BitVec.ofInt 32 (b : Int)).toNat = b := by rw [BitVec.toNat_ofInt]; omega
  show IntKind.u32.wrap ((BitVec.ofInt 32 (a : Int) ||| BitVec.ofInt 32 (b : Int)).toNat : Nat) = _
  have e3 : a ||| b < 2 ^ 32 := Nat.or_lt_two_pow ha hb
  rw [BitVec.toNat_or, e1, e2, wrap_nat, Nat.mod_eq_of_lt e3]
/-- Four bytes laid together, the lowest first. -/
theorem or4L (x0 x1 x2 x3 : Nat) (h0 : x0 < 256) (h1 : x1 < 256) (h2 : x2 < 256) (h3 : x3 < 256) :
    bits .or .u32 (bits .or .u32 (bits .or .u32 (x0 : Int) ((x1 : Int) * 256)) ((x2 : Int) * 65536)) ((x3 : Int) * 16777216) = wi (BitVec.ofNat 32 (x0 + 256 * x1 + 65536 * x2 + 16777216 * x3)) := by
  have a1 : (x1 : Int) * 256 = ((256 * x1 : Nat) : Int) := by omega
  have a2 : (x2 : Int) * 65536 = ((65536 * x2 : Nat) : Int) := by omega
  have a3 : (x3 : Int) * 16777216 = ((16777216 * x3 : Nat) : Int) := by omega
  have b1 : x0 ||| 256 * x1 = x0 + 256 * x1 := (Nat.or_comm _ _).trans ((or_sum 8 x0 x1 h0).trans (Nat.add_comm _ _))
  have b2 : x0 + 256 * x1 ||| 65536 * x2 = x0 + 256 * x1 + 65536 * x2 := (Nat.or_comm _ _).trans ((or_sum 16 (x0 + 256 * x1) x2 (by omega)).trans (Nat.add_comm _ _))
  have b3 : x0 + 256 * x1 + 65536 * x2 ||| 16777216 * x3 = x0 + 256 * x1 + 65536 * x2 + 16777216 * x3 := (Nat.or_comm _ _).trans ((or_sum 24 (x0 + 256 * x1 + 65536 * x2) x3 (by omega)).trans (Nat.add_comm _ _))
  rw [a1, a2, a3, or_u32L _ _ (by omega) (by omega), b1, or_u32L _ _ (by omega) (by omega), b2, or_u32L _ _ (by omega) (by omega), b3, wi_lit _ (by omega)]

end Go.Proofs.Ytjnnhkodkbhbbaa
