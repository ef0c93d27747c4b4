/- Texts that belong together, one behind the other. -/
import Derived.Test.YthafgicndklgfaaGreatDoorQz05
namespace Go.Proofs.YthafgicndklgfaaGreatDoor
set_option linter.unusedVariables false
set_option linter.unusedSimpArgs false
open Go.RowKit
theorem byteAt_nat (n : Int) (k : Nat) : ((byteAt n k).toNat : Int) = (n / 256 ^ k) % 256 := by
 have := byte_cell n k
 unfold bval at this
 injection this
theorem decI_be8 (n : Int) (h1 : -9223372036854775808 ≤ n) (h2 : n ≤ 9223372036854775807) : decI (zep n) = n := by
 unfold decI
 have e : (accN (zep n) : Int) = (((((((((byteAt n 7).toNat : Int) * 256 + (byteAt n 6).toNat) * 256 + (byteAt n 5).toNat) * 256 + (byteAt n 4).toNat) * 256 + (byteAt n 3).toNat) * 256 + (byteAt n 2).toNat) * 256 + (byteAt n 1).toNat) * 256 + (byteAt n 0).toNat) := by
  simp [accN, zep]
 rw [e, IntKind.wrap_i64]
 simp only [byteAt_nat]
 have e0 : n / 256 ^ 0 = n := by simp
 have s : ∀ k : Nat, n / 256 ^ (k + 1) = n / 256 ^ k / 256 := by
  intro k
  rw [Int.ediv_ediv_of_nonneg (Int.pow_nonneg (by omega)), Int.pow_succ]
 rw [s 6, s 5, s 4, s 3, s 2, s 1, s 0, e0]
 generalize h1' : n / 256 = x1
 generalize h2' : x1 / 256 = x2
 generalize h3' : x2 / 256 = x3
 generalize h4' : x3 / 256 = x4
 generalize h5' : x4 / 256 = x5
 generalize h6' : x5 / 256 = x6
 generalize h7' : x6 / 256 = x7
 omega
theorem readS_yes {b : List UInt8} (h1 : b.length = 76) (h2 : b.take 4 = [80, 67, 83, 84]) (h3 : smallB (decI ((b.drop 4).take 8)) = true) : readS b = some (decI ((b.drop 4).take 8), b.drop 12) := if_pos ⟨h1, h2, h3⟩
theorem be8s_one (n : Int) : be8s [n] = zep n := by simp [be8s]
theorem stopB_parts (id : Int) (sig : List UInt8) : (stopB id sig).take 4 = [80, 67, 83, 84] ∧ ((stopB id sig).drop 4).take 8 = zep id ∧ (stopB id sig).drop 12 = sig := by
 unfold stopB stopT
 rw [be8s_one]
 exact ⟨rfl, rfl, rfl⟩
theorem decI_small8 {id : Int} (h : smallB id = true) : decI (zep id) = id := decI_be8 id (by have := smallB_lo h; omega) (by have := smallB_hi h; omega)
theorem readS_back {id : Int} {sig : List UInt8} (h : smallB id = true) (hs : sig.length = 64) : readS (stopB id sig) = some (id, sig) := by
 obtain ⟨h1, h2, h3⟩ := stopB_parts id sig
 rw [readS_yes (zed id hs) h1 (by rw [h2, decI_small8 h]; exact h), h2, h3, decI_small8 h]
end Go.Proofs.YthafgicndklgfaaGreatDoor
