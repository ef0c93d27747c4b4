/- The bytes of limbs: the arithmetic. No program. Each theorem names its own conditions. -/
import Derived.Test.YtoebokeehhfboaaDoorSclRestM
namespace Go.Proofs.YtoebokeehhfboaaDoor
open Go.RowKit
set_option linter.unusedVariables false
set_option linter.unusedSimpArgs false

/-- The bytes of a number modulo q. -/
def nq (x : Int) : List UInt8 := bytesN 32 (x % qQ).toNat
theorem nq_length (x : Int) : (nq x).length = 32 := bytesN_length _ _

theorem pow_mul28 (s : Nat) (h : s ≤ 28) : (2 : Nat) ^ s * 2 ^ (28 - s) = 268435456 := by
  rw [← Nat.pow_add, Nat.add_sub_cancel' h]
theorem byte_of_limbs {y : List Int} {v : Int} (h : Fin9 y v) (v0 : 0 ≤ v) {i p s : Nat} (hi : i < 32) (hp : p = 8 * i / 28) (hs : s = 8 * i % 28) :
    IntKind.u8.wrap (bits .or .i64 (y.getD p 0 / 2 ^ s) (y.getD (p + 1) 0 * 2 ^ (28 - s))) = (((bytesN 32 v.toNat).getD i 0).toNat : Int) := by
  obtain ⟨h1, h2, h3, h4, h5⟩ := h
  have hp8 : p ≤ 8 := by omega
  have s28 : s < 28 := by omega
  have hd := gV_div (B := 268435456) (by omega) (zs := y) (d := p) (by omega) (fun j hj => h3 j (by omega))
  have c1 : y.drop p = y.getD p 0 :: y.getD (p + 1) 0 :: y.drop (p + 2) := by
    rw [List.drop_eq_getElem_cons (by omega), List.drop_eq_getElem_cons (by omega : p + 1 < y.length), getD_eq (by omega), getD_eq (by omega)]
  rw [c1, h2] at hd
  simp only [gV] at hd
  generalize gV 268435456 (y.drop (p + 2)) = R at hd
  have hN : 0 ≤ y.getD (p + 1) 0 ∧ y.getD (p + 1) 0 ≤ 268435456 := by
    rcases (by omega : p + 1 < 8 ∨ p + 1 = 8 ∨ 8 < p + 1) with g | g | g
    · have := h3 _ g; omega
    · rw [g]; exact h4
    · rw [h5 _ g]; omega
  have hP : 0 ≤ y.getD p 0 ∧ y.getD p 0 ≤ 268435456 ∧ (y.getD p 0 < 268435456 ∨ y.getD (p + 1) 0 = 0) := by
    rcases (by omega : p < 8 ∨ p = 8) with g | g
    · have := h3 _ g; omega
    · rw [g]; exact ⟨h4.1, h4.2, Or.inr (h5 _ (by omega))⟩
  generalize y.getD p 0 = P at *
  generalize y.getD (p + 1) 0 = N at *
  obtain ⟨a, rfl⟩ : ∃ a : Nat, P = a := ⟨P.toNat, by omega⟩
  obtain ⟨b, rfl⟩ : ∃ b : Nat, N = b := ⟨N.toNat, by omega⟩
  have k28 := pow_mul28 s (by omega)
  have kp1 : 0 < 2 ^ s := Nat.pow_pos (by omega)
  have kp2 : 0 < 2 ^ (28 - s) := Nat.pow_pos (by omega)
  have kle : 2 ^ (28 - s) ≤ 268435456 := by rw [← k28]; exact Nat.le_mul_of_pos_left _ kp1
  have e1 : (a : Int) / 2 ^ s = ((a / 2 ^ s : Nat) : Int) := by simp
  have e2 : (b : Int) * 2 ^ (28 - s) = ((2 ^ (28 - s) * b : Nat) : Int) := by
    rw [Int.natCast_mul, Int.mul_comm]
    simp
  have hor : a / 2 ^ s ||| 2 ^ (28 - s) * b = a / 2 ^ s + 2 ^ (28 - s) * b := by
    rcases hP.2.2 with g | g
    · have ha : a / 2 ^ s < 2 ^ (28 - s) := by
        rw [Nat.div_lt_iff_lt_mul kp1, Nat.mul_comm, k28]
        omega
      rw [Nat.or_comm, or_sum (28 - s) _ _ ha]
      omega
    · have : b = 0 := by omega
      subst this
      simp
  have hb2 : 2 ^ (28 - s) * b ≤ 268435456 * 268435456 := Nat.mul_le_mul kle (by omega)
  have ha2 : a / 2 ^ s ≤ a := Nat.div_le_self _ _
  rw [e1, e2, or_i64 _ _ (by omega) (by omega), hor, bytesN_getD 32 _ i hi, IntKind.wrap_u8]
  have e3 : (v.toNat / 256 ^ i % 256 : Nat) = (v / 256 ^ i % 256).toNat := by
    obtain ⟨n, rfl⟩ : ∃ n : Nat, v = n := ⟨v.toNat, by omega⟩
    have e : ((256 : Int) ^ i) = ((256 ^ i : Nat) : Int) := by simp
    rw [e, Int.toNat_natCast, ← Int.natCast_ediv]
    omega
  have e4 : (256 : Int) ^ i = 268435456 ^ p * 2 ^ s := by rw [hp, hs]; exact (pow_split i).symm
  have e5 : v / 256 ^ i = ((a / 2 ^ s + 2 ^ (28 - s) * b : Nat) : Int) + 256 * (1048576 * 2 ^ (28 - s) * R) := by
    rw [e4, ← Int.ediv_ediv_of_nonneg (Int.le_of_lt (Int.pow_pos (by omega))), hd]
    have e6 : (268435456 : Int) = 2 ^ s * 2 ^ (28 - s) := by rw [← Int.pow_add, Nat.add_sub_cancel' (by omega)]; decide
    have e7 : (a : Int) + 268435456 * ((b : Int) + 268435456 * R) = (a : Int) + 2 ^ s * (2 ^ (28 - s) * ((b : Int) + 268435456 * R)) := by
      rw [← Int.mul_assoc, ← e6]
    rw [e7, Int.add_mul_ediv_left _ _ (Int.ne_of_gt (Int.pow_pos (by omega)))]
    rw [e1]
    have e8 : ((2 ^ (28 - s) : Nat) : Int) = 2 ^ (28 - s) := by simp
    rw [Int.natCast_add, Int.natCast_mul, e8]
    generalize (2 : Int) ^ (28 - s) = Z
    generalize ((a / 2 ^ s : Nat) : Int) = u
    grind
  rw [e3, e5]
  generalize (1048576 : Int) * 2 ^ (28 - s) * R = Z
  generalize (a / 2 ^ s + 2 ^ (28 - s) * b : Nat) = S
  omega

end Go.Proofs.YtoebokeehhfboaaDoor
