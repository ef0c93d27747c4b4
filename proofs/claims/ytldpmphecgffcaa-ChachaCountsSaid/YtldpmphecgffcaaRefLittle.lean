/- The walk of the document's own four bytes as a word, the lowest first. Each theorem names its own conditions. -/
import Derived.Test.YtldpmphecgffcaaProg
import Derived.Test.YtldpmphecgffcaaChaSpec
import Derived.Test.YtldpmphecgffcaaFormKit
import Derived.Deep.RegionWith
import Derived.BigQuiet
namespace Go.Proofs.Ytldpmphecgffcaa
open Go.RowKit
set_option linter.unusedVariables false
set_option linter.unusedSimpArgs false

theorem or_u32L (a b : Nat) (ha : a < 4294967296) (hb : b < 4294967296) : bits .or .u32 (a : Int) (b : Int) = ((a ||| b : Nat) : Int) := by
  have e1 : (BitVec.ofInt 32 (a : Int)).toNat = a := by rw [BitVec.toNat_ofInt]; omega
  have e2 : (BitVec.ofInt 32 (b : Int)).toNat = b := by rw [BitVec.toNat_ofInt]; omega
  show IntKind.u32.wrap ((BitVec.ofInt 32 (a : Int) ||| BitVec.ofInt 32 (b : Int)).toNat : Nat) = _
  have e3 : a ||| b < 2 ^ 32 := Nat.or_lt_two_pow ha hb
  rw [BitVec.toNat_or, e1, e2, wrap_nat, Nat.mod_eq_of_lt e3]
/-- Four bytes laid together, the lowest first. -/
theorem or4L (x0 x1 x2 x3 : Nat) (h0 : x0 < 256) (h1 : x1 < 256) (h2 : x2 < 256) (h3 : x3 < 256) :
    bits .or .u32 (bits .or .u32 (bits .or .u32 (x0 : Int) ((x1 : Int) * 256)) ((x2 : Int) * 65536)) ((x3 : Int) * 16777216) = wi (BitVec.ofNat 32 (x0 + 256 * x1 + 65536 * x2 + 16777216 * x3)) := by
  have a1 : (x1 : Int) * 256 = ((256 * x1 : Nat) : Int) := by omega
  have a2 : (x2 : Int) * 65536 = ((65536 * x2 : Nat) : Int) := by omega
  have a3 : (x3 : Int) * 16777216 = ((16777216 * x3 : Nat) : Int) := by omega
  have b1 : x0 ||| 256 * x1 = x0 + 256 * x1 := (Nat.or_comm _ _).trans ((or_sum 8 x0 x1 h0).trans (Nat.add_comm _ _))
  have b2 : x0 + 256 * x1 ||| 65536 * x2 = x0 + 256 * x1 + 65536 * x2 := (Nat.or_comm _ _).trans ((or_sum 16 (x0 + 256 * x1) x2 (by omega)).trans (Nat.add_comm _ _))
  have b3 : x0 + 256 * x1 + 65536 * x2 ||| 16777216 * x3 = x0 + 256 * x1 + 65536 * x2 + 16777216 * x3 := (Nat.or_comm _ _).trans ((or_sum 24 (x0 + 256 * x1 + 65536 * x2) x3 (by omega)).trans (Nat.add_comm _ _))
  rw [a1, a2, a3, or_u32L _ _ (by omega) (by omega), b1, or_u32L _ _ (by omega) (by omega), b2, or_u32L _ _ (by omega) (by omega), b3, wi_lit _ (by omega)]

set_option maxHeartbeats 2000000 in
/-- A word is read off four bytes of a block. -/
theorem little_any (c off len cap : Nat) (cs : List UInt8) (t : TypeId) (w : World) (hb : Blk w c (cs.map bval) t) (hl : off + 4 ≤ cs.length) (h4 : 4 ≤ len) :
    Calls Try.prog 15 #[.slice (some ⟨c, off, none⟩) len cap] w fun e w' => e = .returned (.int .u32 (wi (leW cs off))) ∧ w' = w.drew := by
  have cc : ∀ j, j ≤ 3 → w.cell? ⟨c, off + j, none⟩ = some (.int .u8 ((cs.getD (off + j) 0).toNat : Int)) := fun j hj => by
    rw [hb.cell, bval_get (by omega)]
  have c0 := cc 0 (by omega)
  have c1 := cc 1 (by omega)
  have c2 := cc 2 (by omega)
  have c3 := cc 3 (by omega)
  simp only [Nat.add_zero] at c0
  have d0 := UInt8.toNat_lt (cs.getD off 0)
  have d1 := UInt8.toNat_lt (cs.getD (off + 1) 0)
  have d2 := UInt8.toNat_lt (cs.getD (off + 2) 0)
  have d3 := UInt8.toNat_lt (cs.getD (off + 3) 0)
  have HBE : Hid (leW cs off = BitVec.ofNat 32 ((cs.getD off 0).toNat + 256 * (cs.getD (off + 1) 0).toNat + 65536 * (cs.getD (off + 2) 0).toNat + 16777216 * (cs.getD (off + 3) 0).toNat)) := Lib.hid rfl
  generalize (cs.getD off 0).toNat = x0 at *
  generalize (cs.getD (off + 1) 0).toNat = x1 at *
  generalize (cs.getD (off + 2) 0).toNat = x2 at *
  generalize (cs.getD (off + 3) 0).toNat = x3 at *
  clear cc hb hl
  have i0 : (0 : Int) < (len : Int) ∧ (1 : Int) < (len : Int) ∧ (2 : Int) < (len : Int) ∧ (3 : Int) < (len : Int) := by omega
  obtain ⟨i0, i1, i2, i3⟩ := i0
  go_enter Try.func15, Try.ntmps15
  go_wp2_with fail
  go_region
  go_wp2_with fail
  go_ret
  exact ⟨by rw [HBE.out, ← or4L x0 x1 x2 x3 d0 d1 d2 d3]; rfl, rfl⟩

end Go.Proofs.Ytldpmphecgffcaa
