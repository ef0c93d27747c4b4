/- Poly1305 as a function on lists of bytes. No program. Each theorem names its own conditions. -/
import Derived.Test.YtjnnhkodkbhbbaaPolM
namespace Go.Proofs.Ytjnnhkodkbhbbaa
open Go.RowKit
set_option linter.unusedVariables false
set_option linter.unusedSimpArgs false

/-- The number r of a key: bytes 3, 7, 11, 15 below 16, and 4, 8, 12 without their lowest two bits. -/
def pDigit (key : List UInt8) (i : Nat) : Nat :=
  if i = 3 ∨ i = 7 ∨ i = 11 ∨ i = 15 then (key.getD i 0).toNat % 16 else if i = 4 ∨ i = 8 ∨ i = 12 then (key.getD i 0).toNat / 4 * 4 else (key.getD i 0).toNat
def pDigits (key : List UInt8) : List Int := (List.range 16).map fun i => (pDigit key i : Int)
def pR (key : List UInt8) : Int := gV 256 (pDigits key)
def pS (key : List UInt8) : Nat := leN ((key.drop 16).take 16)
/-- A block's number: its bytes, and a 1 behind. -/
def pBlk (b : List UInt8) (n : Nat) : Int := ((leN ((b.drop (16 * n)).take 16) : Nat) : Int) + 256 ^ (min 16 (b.length - 16 * n))
/-- After n blocks. -/
def pAcc (r : Int) (b : List UInt8) : Nat → Int
  | 0 => 0
  | n + 1 => (pAcc r b n + pBlk b n) * r % (pQ : Int)
def pNum (key b : List UInt8) : Int := pAcc (pR key) b ((b.length + 15) / 16)
/-- The tag. -/
def polyTag (key b : List UInt8) : List UInt8 := bytesN 16 (pNum key b + pS key).toNat
theorem polyTag_length (key b : List UInt8) : (polyTag key b).length = 16 := bytesN_length _ _
theorem pQ_pos : (0 : Int) < (pQ : Int) := by decide +kernel
theorem pAcc_range (r : Int) (b : List UInt8) : ∀ n, 0 ≤ pAcc r b n ∧ pAcc r b n < (pQ : Int)
  | 0 => ⟨Int.le_refl _, pQ_pos⟩
  | n + 1 => ⟨Int.emod_nonneg _ (Int.ne_of_gt pQ_pos), Int.emod_lt_of_pos _ pQ_pos⟩
/-- RFC 8439, section 2.5.2. -/
theorem poly_rfc : polyTag [0x85, 0xd6, 0xbe, 0x78, 0x57, 0x55, 0x6d, 0x33, 0x7f, 0x44, 0x52, 0xfe, 0x42, 0xd5, 0x06, 0xa8, 0x01, 0x03, 0x80, 0x8a, 0xfb, 0x0d, 0xb2, 0xfd, 0x4a, 0xbf, 0xf6, 0xaf, 0x41, 0x49, 0xf5, 0x1b]
    [67, 114, 121, 112, 116, 111, 103, 114, 97, 112, 104, 105, 99, 32, 70, 111, 114, 117, 109, 32, 82, 101, 115, 101, 97, 114, 99, 104, 32, 71, 114, 111, 117, 112] = [0xa8, 0x06, 0x1d, 0xc1, 0x30, 0x51, 0x36, 0xc6, 0xc2, 0x2b, 0x8b, 0xaf, 0x0c, 0x01, 0x27, 0xa9] := by decide +kernel
theorem pR_zero {key : List UInt8} (h : ∀ i, i < 16 → key.getD i 0 = 0) : pR key = 0 := by
  unfold pR
  have e : pDigits key = List.replicate 16 0 := by
    unfold pDigits
    rw [List.eq_replicate_iff]
    refine ⟨by simp, fun z hz => ?_⟩
    obtain ⟨i, hi, rfl⟩ := List.mem_map.1 hz
    have hi2 : i < 16 := List.mem_range.1 hi
    unfold pDigit
    rw [h i hi2]
    split
    · rfl
    · split <;> rfl
  rw [e, gV_zeros]
/-- Under a key whose first half is nought each tag is the last half. -/
theorem pNum_zero {key : List UInt8} (b : List UInt8) (h : ∀ i, i < 16 → key.getD i 0 = 0) : pNum key b = 0 := by
  unfold pNum
  rw [pR_zero h]
  have : ∀ n, pAcc 0 b n = 0 := fun n => by
    cases n with
    | zero => rfl
    | succ n => simp [pAcc]
  exact this _

end Go.Proofs.Ytjnnhkodkbhbbaa
