/- What FieldRoots holds of roots, in lists and numbers. No walk. Each theorem names its own conditions. -/
import Derived.Test.YtmiapjmdolecbaaDoorFldSqM
namespace Go.Proofs.YtmiapjmdolecbaaDoor
open Go.RowKit
set_option linter.unusedVariables false

/-- The root that is named is R or -R. -/
theorem rootN_pm {x : Int} (h : rootB x = true) : rootN x = nb (rootR x) ∨ rootN x = nb (-(rootR x)) := by
  unfold rootN
  rw [h]
  have e : nb (((leN zer : Nat) : Int) - ((leN (nb (rootR x)) : Nat) : Int)) = nb (-(rootR x)) := by
    rw [leN_zer, ← Int.zero_sub]
    exact nb_cong ((Cong.refl _).sub (nb_of _))
  rw [e]
  simp only [if_true]
  split
  · exact Or.inr rfl
  · exact Or.inl rfl
theorem rootB_sq {x : Int} (h : rootB x = true) : Cong (rootR x * rootR x) x := nb_inj.1 (of_decide_eq_true h)
theorem roots_square {x : Int} (h : rootB x = true) : nb (IL (rootN x) * IL (rootN x)) = nb x := by
  refine nb_cong (Cong.trans ?_ (rootB_sq h))
  rcases rootN_pm h with e | e
  · rw [e]
    exact (nb_of _).mul (nb_of _)
  · rw [e]
    have := (nb_of (-(rootR x))).mul (nb_of (-(rootR x)))
    rw [Int.neg_mul_neg] at this
    exact this
theorem first_byte (y : Int) : ((nb y).getD 0 0).toNat % 2 = (y % pP).toNat % 2 := by
  unfold nb bytesN
  simp only [List.getD, List.getElem?_cons_zero, Option.getD_some, UInt8.toNat_ofNat']
  omega
theorem neg_odd (y : Int) (h : (y % pP).toNat % 2 = 1) : ((-y) % pP).toNat % 2 = 0 := by
  have hp : pP % 2 = 1 := by decide +kernel
  have h0 : 0 < pP := by decide +kernel
  have a0 := Int.emod_nonneg y (Int.ne_of_gt h0)
  have a1 := Int.emod_lt_of_pos y h0
  have e : (-y) % pP = pP - y % pP := by
    have e1 : -y = (pP - y % pP) + pP * (-(y / pP) - 1) := by
      have := Int.emod_add_mul_ediv y pP
      rw [Int.mul_sub, Int.mul_neg]
      omega
    rw [e1, Int.add_mul_emod_self_left]
    exact Int.emod_eq_of_lt (by omega) (by omega)
  generalize pP = p at *
  omega
theorem roots_even {x : Int} (h : rootB x = true) : ((rootN x).getD 0 0).toNat % 2 = 0 := by
  unfold rootN
  rw [h]
  simp only [if_true]
  have e : nb (((leN zer : Nat) : Int) - ((leN (nb (rootR x)) : Nat) : Int)) = nb (-(rootR x)) := by
    rw [leN_zer, ← Int.zero_sub]
    exact nb_cong ((Cong.refl _).sub (nb_of _))
  rw [e]
  by_cases hod : ((nb (rootR x)).getD 0 0).toNat % 2 = 1
  · rw [decide_eq_true hod]
    simp only [if_true]
    rw [first_byte] at hod ⊢
    exact neg_odd _ hod
  · rw [decide_eq_false hod]
    simp only [Bool.false_eq_true, if_false]
    omega
theorem rootB_of {x y : Int} (h : Cong y (x * x)) : rootB y = true := by
  by_cases hd : pP ∣ y
  · have hz := cong_zero.2 hd
    have he : Cong (y ^ pE) 0 := by
      have e : (0 : Int) ^ pE = 0 := Int.zero_pow (by decide +kernel)
      have := hz.pow pE
      rw [e] at this
      exact this
    have hs : nb (y ^ pE * y ^ pE) = nb y := nb_cong (((he.mul he).trans (by rw [Int.zero_mul]; exact Cong.refl _)).trans hz.symm)
    exact rootB_true (by unfold rootR; rw [if_pos hs]; exact hs)
  · exact (rootB_iff hd).2 (half_of_square hd h.symm)
theorem roots_back (x : Int) : rootB (IL (nb (x * x))) = true := rootB_of (nb_of _)
theorem roots_both (x : Int) : rootN (IL (nb (x * x))) = nb x ∨ rootN (IL (nb (x * x))) = nb (IL zer - x) := by
  have hb := roots_back x
  have hs := (rootB_sq hb).trans (nb_of (x * x))
  have en : nb (IL zer - x) = nb (-x) := by rw [IL, leN_zer, ← Int.zero_sub]; rfl
  rw [en]
  rcases cong_sq hs with c | c <;> rcases rootN_pm hb with e | e <;> rw [e]
  · exact Or.inl (nb_cong c)
  · exact Or.inr (nb_cong (by have := (Cong.refl 0).sub c; rwa [Int.zero_sub, Int.zero_sub] at this))
  · exact Or.inr (nb_cong c)
  · exact Or.inl (nb_cong (by have := (Cong.refl 0).sub c; rwa [Int.zero_sub, Int.zero_sub, Int.neg_neg] at this))

end Go.Proofs.YtmiapjmdolecbaaDoor
