/- Bits of bytes as values. Nothing here speaks of a program. Each theorem names its own conditions. -/
import Derived.Test.YtdjdalaghfknoaaRowMore
namespace Go.Proofs.Ytdjdalaghfknoaa
open Go.RowKit
set_option linter.unusedVariables false
set_option linter.unusedSimpArgs false

theorem u8_and (a b : UInt8) : bits .and .u8 (a.toNat : Int) (b.toNat : Int) = ((a &&& b).toNat : Int) := by
  have h1 := a.toNat_lt
  have h2 := b.toNat_lt
  have key : (BitVec.ofInt 8 (a.toNat : Int) &&& BitVec.ofInt 8 (b.toNat : Int)).toNat = a.toNat &&& b.toNat := by
    rw [BitVec.toNat_and, BitVec.toNat_ofInt, BitVec.toNat_ofInt]
    congr 1 <;> omega
  show IntKind.u8.wrap ((BitVec.ofInt 8 (a.toNat : Int) &&& BitVec.ofInt 8 (b.toNat : Int)).toNat : Nat) = _
  rw [key, UInt8.toNat_and, IntKind.wrap_u8]
  have : a.toNat &&& b.toNat ≤ a.toNat := Nat.and_le_left
  omega
theorem u8_or (a b : UInt8) : bits .or .u8 (a.toNat : Int) (b.toNat : Int) = ((a ||| b).toNat : Int) := by
  have h1 := a.toNat_lt
  have h2 := b.toNat_lt
  have key : (BitVec.ofInt 8 (a.toNat : Int) ||| BitVec.ofInt 8 (b.toNat : Int)).toNat = a.toNat ||| b.toNat := by
    rw [BitVec.toNat_or, BitVec.toNat_ofInt, BitVec.toNat_ofInt]
    congr 1 <;> omega
  show IntKind.u8.wrap ((BitVec.ofInt 8 (a.toNat : Int) ||| BitVec.ofInt 8 (b.toNat : Int)).toNat : Nat) = _
  rw [key, ← UInt8.toNat_or, IntKind.wrap_u8]
  have := (a ||| b).toNat_lt
  omega
theorem u8_set (l : List UInt8) (i : Nat) (z : UInt8) : (l.map bval).set i (.int .u8 (z.toNat : Int)) = (l.set i z).map bval := by
  rw [List.map_set]
  rfl

end Go.Proofs.Ytdjdalaghfknoaa
