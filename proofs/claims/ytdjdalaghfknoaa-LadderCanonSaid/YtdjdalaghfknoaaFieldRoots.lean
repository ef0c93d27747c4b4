/- Squares modulo p = 2^255 - 19, and how a root is found. No program. Each theorem names its own conditions. -/
import Derived.Test.YtdjdalaghfknoaaFieldMath
namespace Go.Proofs.Ytdjdalaghfknoaa
set_option linter.unusedVariables false

/-- (p - 1) / 2 and (p + 3) / 8. -/
def pM : Nat := 28948022309329048855892746252171976963317496166410141009864396001978282409974
def pE : Nat := 7237005577332262213973186563042994240829374041602535252466099000494570602494
theorem pM_two : pN - 1 = pM + pM := by decide +kernel
theorem pE_four : pE + pE + (pE + pE) = pM + 2 := by decide +kernel
/-- A root of -1. -/
def sm1 : Int := 19681161376707505956807079304988542015446066515923890162744021073123829784752
theorem sm1_sq : Cong (sm1 * sm1) (-1) := by
  have : pP ∣ sm1 * sm1 - -1 := by decide +kernel
  exact this

theorem cong_zero {x : Int} : Cong x 0 ↔ pP ∣ x := by unfold Cong; rw [Int.sub_zero]
theorem p_one : ¬ pP ∣ (1 : Int) := by decide +kernel
theorem p_two : ¬ pP ∣ (2 : Int) := by decide +kernel

theorem cong_mul_zero {x y : Int} (h : Cong (x * y) 0) : Cong x 0 ∨ Cong y 0 := by
  rw [cong_zero] at h
  rcases p_domain h with h | h
  · exact Or.inl (cong_zero.2 h)
  · exact Or.inr (cong_zero.2 h)
theorem cong_sq {x y : Int} (h : Cong (x * x) (y * y)) : Cong x y ∨ Cong x (-y) := by
  have : Cong ((x - y) * (x + y)) 0 := by
    obtain ⟨q, hq⟩ := h
    exact ⟨q, by grind⟩
  rcases cong_mul_zero this with h | h
  · left
    obtain ⟨q, hq⟩ := h
    exact ⟨q, by grind⟩
  · right
    obtain ⟨q, hq⟩ := h
    exact ⟨q, by grind⟩

/-- The half power of a number that is not 0 is 1 or -1. -/
theorem half_power {x : Int} (h : ¬ pP ∣ x) : Cong (x ^ pM) 1 ∨ Cong (x ^ pM) (-1) := by
  have hf := p_fermat h
  rw [pM_two, Int.pow_add] at hf
  have : Cong (x ^ pM * x ^ pM) (1 * 1) := by rw [Int.mul_one]; exact hf
  exact cong_sq this
theorem one_not_minus : ¬ Cong 1 (-1) := by
  intro h
  have : pP ∣ (1 : Int) - -1 := h
  exact p_two this

/-- A square's half power is 1. -/
theorem half_of_square {x r : Int} (h : ¬ pP ∣ x) (hr : Cong (r * r) x) : Cong (x ^ pM) 1 := by
  have hr0 : ¬ pP ∣ r := fun hd => h (by
    obtain ⟨q, hq⟩ := hd
    obtain ⟨t, ht⟩ := hr
    exact ⟨q * r - t, by grind⟩)
  have h1 := hr.symm.pow pM
  have h2 : (r * r) ^ pM = r ^ (pN - 1) := by rw [pM_two, Int.pow_add, Int.mul_pow]
  rw [h2] at h1
  exact h1.trans (p_fermat hr0)

/-- Where the half power is 1, the power to (p + 3) / 8 squared is the number, or its negative. -/
theorem eighth_power {x : Int} (h : Cong (x ^ pM) 1) : Cong (x ^ pE * x ^ pE) x ∨ Cong (x ^ pE * sm1 * (x ^ pE * sm1)) x := by
  have e : x ^ pE * x ^ pE * (x ^ pE * x ^ pE) = x ^ pM * (x * x) := by
    rw [← Int.pow_add, ← Int.pow_add, pE_four, Int.pow_add, Int.pow_succ, Int.pow_succ, Int.pow_zero, Int.one_mul]
  have h1 : Cong (x ^ pE * x ^ pE * (x ^ pE * x ^ pE)) (x * x) := by
    rw [e]
    have := h.mul (Cong.refl (x * x))
    rwa [Int.one_mul] at this
  rcases cong_sq h1 with h2 | h2
  · exact Or.inl h2
  · right
    have h3 := h2.mul sm1_sq
    have e2 : x ^ pE * sm1 * (x ^ pE * sm1) = x ^ pE * x ^ pE * (sm1 * sm1) := by grind
    rw [e2]
    have e3 : -x * -1 = x := by omega
    rwa [e3] at h3

/-- A root is found just where there is one. -/
theorem root_found {x : Int} (h : ¬ pP ∣ x) : (Cong (x ^ pE * x ^ pE) x ∨ Cong (x ^ pE * sm1 * (x ^ pE * sm1)) x) ↔ Cong (x ^ pM) 1 :=
  ⟨fun hr => by rcases hr with hr | hr <;> exact half_of_square h hr, eighth_power⟩

/-- An inverse undoes a product. -/
theorem inv_undo {x : Int} (h : ¬ pP ∣ x) : Cong (x * x ^ (pN - 2)) 1 := by
  have e : x * x ^ (pN - 2) = x ^ (pN - 1) := by
    have : pN - 1 = pN - 2 + 1 := by decide +kernel
    rw [this, Int.pow_succ, Int.mul_comm]
  rw [e]
  exact p_fermat h

end Go.Proofs.Ytdjdalaghfknoaa
