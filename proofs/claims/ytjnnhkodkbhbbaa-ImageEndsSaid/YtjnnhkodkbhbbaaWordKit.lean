/- Words of 32 bits as values: sums, shifts, bits and turns of them as the machine reckons them. No program. Each theorem names its own conditions. -/
import Derived.Test.YtjnnhkodkbhbbaaDigKit
namespace Go.Proofs.Ytjnnhkodkbhbbaa
open Go.RowKit
set_option linter.unusedVariables false
set_option linter.unusedSimpArgs false

abbrev W32 := BitVec 32
/-- A word as a whole number. -/
def wi (b : W32) : Int := (b.toNat : Int)
theorem wi_range (b : W32) : 0 ≤ wi b ∧ wi b ≤ 4294967295 := by
  have := b.isLt
  unfold wi
  omega
theorem ofInt_wi (b : W32) : BitVec.ofInt 32 (wi b) = b := by
  unfold wi
  apply BitVec.eq_of_toNat_eq
  have := b.isLt
  rw [BitVec.toNat_ofInt]
  omega
theorem wrap_nat (n : Nat) : IntKind.u32.wrap (n : Int) = ((n % 4294967296 : Nat) : Int) := by rw [IntKind.wrap_u32]; omega
theorem wi_lit (n : Nat) (h : n < 4294967296) : wi (BitVec.ofNat 32 n) = (n : Int) := by
  unfold wi
  rw [BitVec.toNat_ofNat]
  omega
theorem wi_add (a b : W32) : IntKind.u32.wrap (wi a + wi b) = wi (a + b) := by
  unfold wi
  rw [← Int.natCast_add, wrap_nat, BitVec.toNat_add]
theorem wi_and (a b : W32) : bits .and .u32 (wi a) (wi b) = wi (a &&& b) := by
  show IntKind.u32.wrap ((BitVec.ofInt 32 (wi a) &&& BitVec.ofInt 32 (wi b)).toNat : Nat) = _
  rw [ofInt_wi, ofInt_wi, wrap_nat, Nat.mod_eq_of_lt (a &&& b).isLt]
  rfl
theorem wi_or (a b : W32) : bits .or .u32 (wi a) (wi b) = wi (a ||| b) := by
  show IntKind.u32.wrap ((BitVec.ofInt 32 (wi a) ||| BitVec.ofInt 32 (wi b)).toNat : Nat) = _
  rw [ofInt_wi, ofInt_wi, wrap_nat, Nat.mod_eq_of_lt (a ||| b).isLt]
  rfl
theorem wi_xor (a b : W32) : bits .xor .u32 (wi a) (wi b) = wi (a ^^^ b) := by
  show IntKind.u32.wrap ((BitVec.ofInt 32 (wi a) ^^^ BitVec.ofInt 32 (wi b)).toNat : Nat) = _
  rw [ofInt_wi, ofInt_wi, wrap_nat, Nat.mod_eq_of_lt (a ^^^ b).isLt]
  rfl
theorem wi_shr (a : W32) (n : Nat) : wi a / 2 ^ n = wi (a >>> n) := by
  unfold wi
  rw [BitVec.toNat_ushiftRight, Nat.shiftRight_eq_div_pow]
  simp
theorem wi_shl (a : W32) (n : Nat) : IntKind.u32.wrap (wi a * 2 ^ n) = wi (a <<< n) := by
  unfold wi
  have e : ((a.toNat : Int) * 2 ^ n) = ((a.toNat * 2 ^ n : Nat) : Int) := by simp
  rw [e, wrap_nat, BitVec.toNat_shiftLeft, Nat.shiftLeft_eq]
/-- Turned to the right. -/
def rotr (a : W32) (n : Nat) : W32 := a >>> n ||| a <<< (32 - n)
theorem wi_rotr (a : W32) (n : Nat) : bits .or .u32 (wi a / 2 ^ n) (IntKind.u32.wrap (wi a * 2 ^ (32 - n))) = wi (rotr a n) := by
  rw [wi_shr, wi_shl, wi_or]
  rfl

/-- Words' cells. -/
def ws (l : List W32) : List Int := l.map wi
theorem ws_length (l : List W32) : (ws l).length = l.length := by simp [ws]
theorem ws_getD (l : List W32) (i : Nat) : (ws l).getD i 0 = wi (l.getD i 0#32) := by
  unfold ws
  simp only [List.getD, List.getElem?_map]
  cases l[i]? <;> simp [wi]
theorem ws_set (l : List W32) (i : Nat) (b : W32) : (ws l).set i (wi b) = ws (l.set i b) := by
  unfold ws
  rw [List.map_set]
theorem ws_zeros (n : Nat) : ws (List.replicate n 0#32) = List.replicate n 0 := by simp [ws, wi]

end Go.Proofs.Ytjnnhkodkbhbbaa
