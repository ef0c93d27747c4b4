/- What becomes of a number's digits on their way out: the mathematics. No program. Each theorem names its own conditions. -/
import Derived.Test.YtdjdalaghfknoaaRefMul
namespace Go.Proofs.Ytdjdalaghfknoaa
open Go.RowKit
set_option linter.unusedVariables false

theorem bigM_lit : bigM = 115792089237316195423570985008687907853269984665640564039457584007913129639936 := by decide +kernel

/-- Digits from 0 to 65535 are a number from 0 to 2^256 - 1. -/
theorem dV_range {zs : List Int} (hl : zs.length = 16) (h : ∀ i, i < 16 → 0 ≤ zs.getD i 0 ∧ zs.getD i 0 ≤ 65535) : 0 ≤ dV zs ∧ dV zs < bigM := by
  have l0 := h 0 (by omega)
  have l1 := h 1 (by omega)
  have l2 := h 2 (by omega)
  have l3 := h 3 (by omega)
  have l4 := h 4 (by omega)
  have l5 := h 5 (by omega)
  have l6 := h 6 (by omega)
  have l7 := h 7 (by omega)
  have l8 := h 8 (by omega)
  have l9 := h 9 (by omega)
  have l10 := h 10 (by omega)
  have l11 := h 11 (by omega)
  have l12 := h 12 (by omega)
  have l13 := h 13 (by omega)
  have l14 := h 14 (by omega)
  have l15 := h 15 (by omega)
  rw [list16 zs hl, bigM_lit]
  simp only [dV]
  omega

theorem CZ.inner {zs zs' : List Int} {B : Int} (h : CZ zs zs' B) : ∃ c, -(B / 32768 + 2) ≤ c ∧ c ≤ B / 32768 + 2 ∧ dV zs' = dV zs - (bigM - 38) * c ∧ 0 ≤ dV zs' - 38 * c ∧ dV zs' - 38 * c < bigM ∧ 0 ≤ zs'.getD 0 0 - 38 * c ∧ zs'.getD 0 0 - 38 * c ≤ 65535 := by
  obtain ⟨hl, ⟨c, c1, c2, c3, c4, c5⟩, h3⟩ := h
  have hr := dV_range (zs := zs'.set 0 (zs'.getD 0 0 - 38 * c)) (by simp [hl]) (fun i hi => by
    rcases Nat.eq_zero_or_pos i with rfl | h0
    · rw [getD_set_same (by omega)]
      exact ⟨c4, c5⟩
    · rw [getD_set_far (by omega)]
      exact h3 i h0 hi)
  rw [dV_set _ _ _ (by omega)] at hr
  simp only [Int.pow_zero, Int.mul_one] at hr
  exact ⟨c, c1, c2, c3, by omega, by omega, c4, c5⟩

/-- A second carry leaves a number from 0 to 2^256 - 1. -/
theorem CZ.second {zs zs' : List Int} {B E : Int} (h : CZ zs zs' B) (hE : E ≤ 1152921504606846976) (h1 : -E ≤ dV zs) (h2 : dV zs ≤ bigM + E) : 0 ≤ dV zs' ∧ dV zs' < bigM := by
  obtain ⟨c, c1, c2, c3, c4, c5, _, _⟩ := h.inner
  rw [c3] at c4 c5 ⊢
  rw [bigM_lit] at *
  omega

/-- A carry of such a number leaves it, in tidy digits. -/
theorem CZ.tidy {zs zs' : List Int} {B : Int} (h : CZ zs zs' B) (h1 : 0 ≤ dV zs) (h2 : dV zs < bigM) : dV zs' = dV zs ∧ ∀ i, i < 16 → 0 ≤ zs'.getD i 0 ∧ zs'.getD i 0 ≤ 65535 := by
  obtain ⟨c, c1, c2, c3, c4, c5, c6, c7⟩ := h.inner
  have hc : c = 0 := by
    rw [c3] at c4 c5
    rw [bigM_lit] at *
    omega
  subst hc
  refine ⟨by rw [c3]; omega, fun i hi => ?_⟩
  rcases Nat.eq_zero_or_pos i with rfl | h0
  · omega
  · exact h.low i h0 hi

/-- p's digits. -/
def pL : List Int := [65517, 65535, 65535, 65535, 65535, 65535, 65535, 65535, 65535, 65535, 65535, 65535, 65535, 65535, 65535, 32767]
theorem dV_pL : dV pL = pP := by decide +kernel

theorem dV_take_set {zs : List Int} {i k : Nat} {z : Int} (hi : i < k) (hk : k ≤ zs.length) : dV ((zs.set i z).take k) = dV (zs.take k) + (z - zs.getD i 0) * 65536 ^ i := by
  rw [List.take_set, dV_set _ _ _ (by simp; omega)]
  congr 3
  simp [List.getD, hi]
theorem dV_take_far {zs : List Int} {i k : Nat} {z : Int} (hi : k ≤ i) : dV ((zs.set i z).take k) = dV (zs.take k) := by
  rw [List.take_set]
  rw [List.set_eq_of_length_le (by simp; omega)]

theorem and1 {t : Int} (h : t = -1 ∨ t = 0) : bits .and .i64 t 1 = -t := by
  rcases h with rfl | rfl <;> decide
theorem and16 (n : Int) : bits .and .i64 n 65535 = n % 65536 := by
  have h : (BitVec.ofInt 64 65535).toNat = 2 ^ 16 - 1 := by decide
  have key : (BitVec.ofInt 64 n &&& BitVec.ofInt 64 65535).toNat = (n % ((2 ^ 64 : Nat) : Int)).toNat % 2 ^ 16 := by
    rw [BitVec.toNat_and, BitVec.toNat_ofInt, h, Nat.and_two_pow_sub_one_eq_mod]
  show IntKind.i64.wrap ((BitVec.ofInt 64 n &&& BitVec.ofInt 64 65535).toNat : Nat) = n % 65536
  rw [key, IntKind.wrap_i64]
  omega
theorem and8 (n : Int) : bits .and .i64 n 255 = n % 256 := by
  have h255 : (BitVec.ofInt 64 255).toNat = 2 ^ 8 - 1 := by decide
  have key : (BitVec.ofInt 64 n &&& BitVec.ofInt 64 255).toNat = (n % ((2 ^ 64 : Nat) : Int)).toNat % 2 ^ 8 := by
    rw [BitVec.toNat_and, BitVec.toNat_ofInt, h255, Nat.and_two_pow_sub_one_eq_mod]
  show IntKind.i64.wrap ((BitVec.ofInt 64 n &&& BitVec.ofInt 64 255).toNat : Nat) = n % 256
  rw [key, IntKind.wrap_i64]
  omega

/-- What holds of the difference's digits when those below i are done and the i-th is laid. -/
structure SubP (a m : List Int) (i : Nat) : Prop where
  len : m.length = 16
  val : dV (m.take (i + 1)) = dV (a.take (i + 1)) - dV (pL.take (i + 1))
  low : ∀ j, j < i → 0 ≤ m.getD j 0 ∧ m.getD j 0 ≤ 65535
  top : -65536 ≤ m.getD i 0 ∧ m.getD i 0 ≤ 65535

theorem SubP.start {a m : List Int} (hm : m.length = 16) (ha : a.length = 16) (h0 : 0 ≤ a.getD 0 0 ∧ a.getD 0 0 ≤ 65535) : SubP a (m.set 0 (a.getD 0 0 - 65517)) 0 := by
  refine ⟨by simp [hm], ?_, fun j hj => by omega, ?_⟩
  · rw [dV_take_set (by omega) (by omega), dV_take_succ m 0 (by omega), dV_take_succ a 0 (by omega)]
    simp only [List.take_zero, pL, List.take_succ_cons, dV]
    omega
  · rw [getD_set_same (by omega)]
    omega

theorem SubP.step {a m : List Int} {i : Nat} {P : Int} (h : SubP a m i) (hi : i < 15) (ha : a.length = 16) (h1 : 0 ≤ a.getD (i + 1) 0 ∧ a.getD (i + 1) 0 ≤ 65535) (hP : pL.getD (i + 1) 0 = P) (hP0 : 0 ≤ P) (hP1 : P ≤ 65535) :
    SubP a ((m.set (i + 1) (a.getD (i + 1) 0 - P - bits .and .i64 (m.getD i 0 / 65536) 1)).set i (bits .and .i64 (m.getD i 0) 65535)) (i + 1) := by
  obtain ⟨hl, h2, h3, h4⟩ := h
  have hp : pL.length = 16 := rfl
  rw [and16, and1 (by omega)]
  refine ⟨by simp [hl], ?_, fun j hj => ?_, ?_⟩
  · rw [dV_take_set (by omega) (by simp; omega), getD_set_far (by omega), dV_take_succ _ (i + 1) (by simp; omega), dV_take_far (by omega), getD_set_same (by omega), h2, dV_take_succ a (i + 1) (by omega), dV_take_succ pL (i + 1) (by omega), hP, Int.pow_succ]
    have e : m.getD i 0 % 65536 = m.getD i 0 - m.getD i 0 / 65536 * 65536 := by omega
    rw [e]
    generalize (65536 : Int) ^ i = X
    grind
  · by_cases e : j = i
    · subst e
      rw [getD_set_same (by simp; omega)]
      omega
    · rw [getD_set_far (by omega), getD_set_far (by omega)]
      exact h3 j (by omega)
  · rw [getD_set_far (by omega), getD_set_same (by omega)]
    omega

/-- The difference is none below 0 just if its highest digit is none. -/
theorem SubP.done {a m : List Int} (h : SubP a m 15) (ha : a.length = 16) : dV m = dV a - pP ∧ (0 ≤ m.getD 15 0 ↔ pP ≤ dV a) ∧ (0 ≤ m.getD 15 0 → ∀ i, i < 16 → 0 ≤ m.getD i 0 ∧ m.getD i 0 ≤ 65535) := by
  obtain ⟨hl, h2, h3, h4⟩ := h
  rw [List.take_of_length_le (by omega), List.take_of_length_le (by omega), List.take_of_length_le (by simp [pL]), dV_pL] at h2
  refine ⟨h2, ?_, fun h i hi => ?_⟩
  · have e := list16 m hl
    have l0 := h3 0 (by omega)
    have l1 := h3 1 (by omega)
    have l2 := h3 2 (by omega)
    have l3 := h3 3 (by omega)
    have l4 := h3 4 (by omega)
    have l5 := h3 5 (by omega)
    have l6 := h3 6 (by omega)
    have l7 := h3 7 (by omega)
    have l8 := h3 8 (by omega)
    have l9 := h3 9 (by omega)
    have l10 := h3 10 (by omega)
    have l11 := h3 11 (by omega)
    have l12 := h3 12 (by omega)
    have l13 := h3 13 (by omega)
    have l14 := h3 14 (by omega)
    have hv : dV m = dV a - pP := h2
    rw [e] at hv
    simp only [dV] at hv
    generalize dV a = V at *
    generalize pP = p at *
    constructor <;> intro h <;> omega
  · rcases Nat.lt_or_ge i 15 with h5 | h5
    · exact h3 i h5
    · obtain rfl : i = 15 := by omega
      omega

end Go.Proofs.Ytdjdalaghfknoaa
