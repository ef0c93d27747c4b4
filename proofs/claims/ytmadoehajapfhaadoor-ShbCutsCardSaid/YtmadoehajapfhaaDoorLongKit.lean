/- Words of 64 bits as values: sums, shifts, bits and turns of them as the machine reckons them. No program. Each theorem names its own conditions. -/
import Derived.Test.YtmadoehajapfhaaDoorDigKit
namespace Go.Proofs.YtmadoehajapfhaaDoor
open Go.RowKit
set_option linter.unusedVariables false
set_option linter.unusedSimpArgs false

abbrev Q64 := BitVec 64
/-- A word as a whole number. -/
def qi (b : Q64) : Int := (b.toNat : Int)
theorem qi_range (b : Q64) : 0 ≤ qi b ∧ qi b ≤ 18446744073709551615 := by
  have := b.isLt
  unfold qi
  omega
theorem ofInt_qi (b : Q64) : BitVec.ofInt 64 (qi b) = b := by
  unfold qi
  apply BitVec.eq_of_toNat_eq
  have := b.isLt
  rw [BitVec.toNat_ofInt]
  omega
theorem wrap_natq (n : Nat) : IntKind.u64.wrap (n : Int) = ((n % 18446744073709551616 : Nat) : Int) := by rw [IntKind.wrap_u64]; omega
theorem qi_lit (n : Nat) (h : n < 18446744073709551616) : qi (BitVec.ofNat 64 n) = (n : Int) := by
  unfold qi
  rw [BitVec.toNat_ofNat]
  omega
theorem qi_add (a b : Q64) : IntKind.u64.wrap (qi a + qi b) = qi (a + b) := by
  unfold qi
  rw [← Int.natCast_add, wrap_natq, BitVec.toNat_add]
theorem qi_and (a b : Q64) : bits .and .u64 (qi a) (qi b) = qi (a &&& b) := by
  show IntKind.u64.wrap ((BitVec.ofInt 64 (qi a) &&& BitVec.ofInt 64 (qi b)).toNat : Nat) = _
  rw [ofInt_qi, ofInt_qi, wrap_natq, Nat.mod_eq_of_lt (a &&& b).isLt]
  rfl
theorem qi_or (a b : Q64) : bits .or .u64 (qi a) (qi b) = qi (a ||| b) := by
  show IntKind.u64.wrap ((BitVec.ofInt 64 (qi a) ||| BitVec.ofInt 64 (qi b)).toNat : Nat) = _
  rw [ofInt_qi, ofInt_qi, wrap_natq, Nat.mod_eq_of_lt (a ||| b).isLt]
  rfl
theorem qi_xor (a b : Q64) : bits .xor .u64 (qi a) (qi b) = qi (a ^^^ b) := by
  show IntKind.u64.wrap ((BitVec.ofInt 64 (qi a) ^^^ BitVec.ofInt 64 (qi b)).toNat : Nat) = _
  rw [ofInt_qi, ofInt_qi, wrap_natq, Nat.mod_eq_of_lt (a ^^^ b).isLt]
  rfl
theorem qi_shr (a : Q64) (n : Nat) : qi a / 2 ^ n = qi (a >>> n) := by
  unfold qi
  rw [BitVec.toNat_ushiftRight, Nat.shiftRight_eq_div_pow]
  simp
theorem qi_shl (a : Q64) (n : Nat) : IntKind.u64.wrap (qi a * 2 ^ n) = qi (a <<< n) := by
  unfold qi
  have e : ((a.toNat : Int) * 2 ^ n) = ((a.toNat * 2 ^ n : Nat) : Int) := by simp
  rw [e, wrap_natq, BitVec.toNat_shiftLeft, Nat.shiftLeft_eq]
/-- Turned to the right. -/
def rotq (a : Q64) (n : Nat) : Q64 := a >>> n ||| a <<< (64 - n)
theorem qi_rotq (a : Q64) (n : Nat) : bits .or .u64 (qi a / 2 ^ n) (IntKind.u64.wrap (qi a * 2 ^ (64 - n))) = qi (rotq a n) := by
  rw [qi_shr, qi_shl, qi_or]
  rfl

/-- Words' cells. -/
def qs (l : List Q64) : List Int := l.map qi
theorem qs_length (l : List Q64) : (qs l).length = l.length := by simp [qs]
theorem qs_getD (l : List Q64) (i : Nat) : (qs l).getD i 0 = qi (l.getD i 0#64) := by
  unfold qs
  simp only [List.getD, List.getElem?_map]
  cases l[i]? <;> simp [qi]
theorem qs_set (l : List Q64) (i : Nat) (b : Q64) : (qs l).set i (qi b) = qs (l.set i b) := by
  unfold qs
  rw [List.map_set]
theorem qs_zeros (n : Nat) : qs (List.replicate n 0#64) = List.replicate n 0 := by simp [qs, qi]

end Go.Proofs.YtmadoehajapfhaaDoor
