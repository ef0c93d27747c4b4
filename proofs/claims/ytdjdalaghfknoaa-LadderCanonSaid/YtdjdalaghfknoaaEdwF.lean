/- Numbers modulo p = 2^255 - 19 as a field of their own. No program. Each theorem names its own conditions. -/
import Derived.Test.YtdjdalaghfknoaaFieldRoots
namespace Go.Proofs.Ytdjdalaghfknoaa
set_option linter.unusedVariables false

instance : NeZero pN := ⟨by decide⟩
abbrev Fp := Fin pN

theorem pP_pos : (0 : Int) < pP := by decide +kernel
theorem pN_cast : ((pN : Nat) : Int) = pP := rfl

/-- A whole number modulo p. -/
def fp (x : Int) : Fp := ⟨(x % pP).toNat, by
  have h0 := Int.emod_nonneg x (show pP ≠ 0 from Int.ne_of_gt pP_pos)
  have h1 := Int.emod_lt_of_pos x pP_pos
  rw [← pN_cast] at h1 h0 ⊢
  omega⟩
theorem fp_val (x : Int) : (fp x).val = (x % pP).toNat := rfl
theorem fp_int (x : Int) : ((fp x).val : Int) = x % pP := by
  have h0 := Int.emod_nonneg x (show pP ≠ 0 from Int.ne_of_gt pP_pos)
  rw [fp_val, Int.toNat_of_nonneg h0]
theorem fin_int {a b : Fp} (h : (a.val : Int) = b.val) : a = b := Fin.ext (Int.ofNat_inj.1 h)
theorem fp_eq {x y : Int} : fp x = fp y ↔ Cong x y := by
  rw [cong_iff, ← fp_int, ← fp_int]
  exact ⟨fun h => by rw [h], fin_int⟩
theorem fp_self (a : Fp) : fp a.val = a := by
  apply fin_int
  rw [fp_int, ← pN_cast, Int.emod_eq_of_lt (by omega) (by have := a.isLt; omega)]
theorem fp_ind {P : Fp → Prop} (h : ∀ x : Int, P (fp x)) (a : Fp) : P a := fp_self a ▸ h a.val
theorem fp_add (x y : Int) : fp (x + y) = fp x + fp y := by
  apply fin_int
  rw [Fin.val_add, fp_int, Int.natCast_emod, Int.natCast_add, fp_int, fp_int, pN_cast, ← Int.add_emod]
theorem fp_mul (x y : Int) : fp (x * y) = fp x * fp y := by
  apply fin_int
  rw [Fin.val_mul, fp_int, Int.natCast_emod, Int.natCast_mul, fp_int, fp_int, pN_cast, ← Int.mul_emod]
theorem fp_zero : fp 0 = 0 := by
  apply fin_int
  rw [fp_int]
  rfl
theorem fp_one : fp 1 = 1 := by
  apply fin_int
  rw [fp_int]
  decide +kernel
theorem fp_neg (x : Int) : fp (-x) = -fp x := by
  have h : fp (-x) + fp x = 0 := by rw [← fp_add, Int.add_left_neg, fp_zero]
  grind
theorem fp_sub (x y : Int) : fp (x - y) = fp x - fp y := by
  rw [Int.sub_eq_add_neg, fp_add, fp_neg]
  grind
theorem fp_zero_iff {x : Int} : fp x = 0 ↔ pP ∣ x := by
  rw [← fp_zero, fp_eq, cong_zero]

theorem f_dom {a b : Fp} (h : a * b = 0) : a = 0 ∨ b = 0 := by
  rw [← fp_self a, ← fp_self b, ← fp_mul, fp_zero_iff] at h
  rcases p_domain h with h | h
  · exact Or.inl (by rw [← fp_self a]; exact fp_zero_iff.2 h)
  · exact Or.inr (by rw [← fp_self b]; exact fp_zero_iff.2 h)
theorem f_mul_ne {a b : Fp} (ha : a ≠ 0) (hb : b ≠ 0) : a * b ≠ 0 := fun h => by
  rcases f_dom h with h | h
  · exact ha h
  · exact hb h
theorem f_cancel {a b c : Fp} (hc : c ≠ 0) (h : a * c = b * c) : a = b := by
  have : (a - b) * c = 0 := by grind
  rcases f_dom this with h | h
  · grind
  · exact absurd h hc

/-- The inverse: the power to p - 2. -/
def fi (a : Fp) : Fp := fp ((a.val : Int) ^ (pN - 2))
theorem fi_fp (x : Int) : fi (fp x) = fp (x ^ (pN - 2)) := by
  unfold fi
  rw [fp_eq, fp_int]
  exact (cong_mod x).pow _
theorem f_inv {a : Fp} (h : a ≠ 0) : a * fi a = 1 := by
  unfold fi
  have h' : ¬ pP ∣ (a.val : Int) := fun hd => h (by rw [← fp_self a]; exact fp_zero_iff.2 hd)
  have := fp_eq.2 (inv_undo h')
  rw [fp_mul, fp_self, fp_one] at this
  exact this
theorem fi_zero : fi 0 = 0 := by
  rw [← fp_zero, fi_fp]
  rw [Int.zero_pow (by decide +kernel)]
theorem f_one_ne : (1 : Fp) ≠ 0 := by
  rw [← fp_one]
  exact fun h => p_one (fp_zero_iff.1 h)
theorem f_two_ne : (2 : Fp) ≠ 0 := by
  have e : (2 : Fp) = fp 2 := by
    have h : fp 2 = fp 1 + fp 1 := fp_add 1 1
    rw [h, fp_one]
    decide +kernel
  rw [e]
  exact fun h => p_two (fp_zero_iff.1 h)

end Go.Proofs.Ytdjdalaghfknoaa
