/- The arithmetic of the laws of chapter 3. No walk. Each theorem names its own conditions. -/
import Derived.Test.YtmiapjmdolecbaaDoorFldLaw0
import Derived.Test.YtmiapjmdolecbaaDoorFieldRoots
namespace Go.Proofs.YtmiapjmdolecbaaDoor
open Go.RowKit
set_option linter.unusedVariables false

/-- A list's number. -/
abbrev IL (l : List UInt8) : Int := ((leN l : Nat) : Int)
theorem p2N : (pP - 2).toNat = pN - 2 := by decide +kernel
theorem nb_zero_iff (x : Int) : nb x = zer ↔ pP ∣ x := by
  have hz : zer = nb 0 := by decide +kernel
  constructor
  · intro h
    have h1 := nb_of x
    rw [h, leN_zer] at h1
    exact cong_zero.1 (h1.symm)
  · intro h
    rw [hz]
    exact nb_cong (cong_zero.2 h)
theorem rules1 (a b c : Int) : nb (a * IL (nb (b + c))) = nb (IL (nb (a * b)) + IL (nb (a * c))) := nb_cong (((Cong.refl a).mul (nb_of _)).trans (by rw [Int.mul_add]; exact ((nb_of _).add (nb_of _)).symm))
theorem rules2 (a b : Int) : nb (IL (nb (a + b)) - b) = nb a := nb_cong (((nb_of _).sub (Cong.refl b)).trans (by rw [Int.add_sub_cancel]; exact Cong.refl a))
theorem rules3 (a b : Int) : nb (a * b) = nb (b * a) := by rw [Int.mul_comm]
theorem rules4 (a b : Int) (hb : nb b ≠ zer) : nb (IL (nb (a * b)) * IL (nb (b ^ (pP - 2).toNat))) = nb a := by
  have h : ¬ pP ∣ b := fun h => hb ((nb_zero_iff b).2 h)
  have h1 := (Cong.refl a).mul (inv_undo h)
  rw [Int.mul_one] at h1
  refine nb_cong (((nb_of _).mul (nb_of _)).trans ?_)
  rw [p2N, Int.mul_assoc]
  exact h1
theorem rules5 (a : Int) : nb (IL (nb (a ^ (pP - 2).toNat)) ^ (pP - 2).toNat) = nb a := by
  refine nb_cong (((nb_of _).pow _).trans ?_)
  rw [p2N]
  by_cases h : pP ∣ a
  · have h0 := cong_zero.2 h
    refine ((h0.pow _).pow _).trans (Cong.trans ?_ h0.symm)
    have e : (0 : Int) ^ (pN - 2) = 0 := Int.zero_pow (by decide +kernel)
    rw [e, e]
    exact Cong.refl _
  · have h1 := inv_undo h
    have h2 : ¬ pP ∣ a ^ (pN - 2) := fun hd => p_one (by
      have := (cong_zero.2 hd)
      have h3 := ((Cong.refl a).mul this).symm.trans h1
      rw [Int.mul_zero] at h3
      exact cong_zero.1 h3.symm)
    have h3 := inv_undo h2
    have h4 : Cong (a * (a ^ (pN - 2) * (a ^ (pN - 2)) ^ (pN - 2))) (a * 1) := (Cong.refl a).mul h3
    have h5 : Cong (a * a ^ (pN - 2) * (a ^ (pN - 2)) ^ (pN - 2)) (1 * (a ^ (pN - 2)) ^ (pN - 2)) := h1.mul (Cong.refl _)
    rw [Int.mul_one, ← Int.mul_assoc] at h4
    rw [Int.one_mul] at h5
    exact h5.symm.trans h4

/-- The sum of two bytes, as a number. -/
def sumL (a b : UInt8) : List UInt8 := UInt8.ofNat ((a.toNat + b.toNat) % 256) :: UInt8.ofNat ((a.toNat + b.toNat) / 256) :: List.replicate 30 0
theorem sumL_length (a b : UInt8) : (sumL a b).length = 32 := by simp [sumL]
theorem leN_sumL (a b : UInt8) : leN (sumL a b) = a.toNat + b.toNat := by
  have ha := a.toNat_lt
  have hb := b.toNat_lt
  simp only [sumL, leN, leN_zeros, UInt8.toNat_ofNat']
  omega
theorem steps1 (x : Int) (a b : UInt8) : nb (x ^ leN (sumL a b)) = nb (IL (nb (x ^ leN (smL a))) * IL (nb (x ^ leN (smL b)))) := by
  rw [leN_sumL, leN_smL, leN_smL, Int.pow_add]
  exact nb_cong ((nb_of _).mul (nb_of _)).symm
theorem steps2 (x : Int) : nb (x ^ leN (smL 2)) = nb (x * x) := by
  rw [leN_smL]
  show nb (x ^ 2) = _
  rw [Int.pow_succ, ← pow1]
theorem steps3 (x : Int) : nb (x ^ leN (smL 1)) = nb x := by
  rw [leN_smL]
  show nb (x ^ 1) = _
  rw [← pow1]
theorem steps4 (x : Int) : nb (x ^ leN zer) = smL 1 := by
  rw [leN_zer, Int.pow_zero]
  decide +kernel
theorem minus1 : leN (nb (IL zer - IL (smL 1))) = pN - 1 := by decide +kernel
theorem steps5 (x : Int) (h : nb x = zer) : nb (x ^ leN (nb (IL zer - IL (smL 1)))) = zer := by
  have h0 := cong_zero.2 ((nb_zero_iff x).1 h)
  rw [minus1]
  refine (nb_cong (h0.pow _)).trans ?_
  have e : (0 : Int) ^ (pN - 1) = 0 := Int.zero_pow (by decide +kernel)
  rw [e]
  decide +kernel
theorem steps6 (x : Int) (h : nb x ≠ zer) : nb (x ^ leN (nb (IL zer - IL (smL 1)))) = smL 1 := by
  have h0 : ¬ pP ∣ x := fun hd => h ((nb_zero_iff x).2 hd)
  rw [minus1]
  refine (nb_cong (p_fermat h0)).trans ?_
  decide +kernel

theorem sums0 (x : Int) : zer = nb (((0 : Nat) : Int) * x) := by
  rw [Int.natCast_zero, Int.zero_mul]
  decide +kernel
theorem sums1 (k : Nat) (x : Int) : nb (IL (nb ((k : Int) * x)) + x) = nb (((k + 1 : Nat) : Int) * x) := nb_cong (((nb_of _).add (Cong.refl x)).trans (by rw [Int.natCast_add, Int.add_mul, Int.natCast_one, Int.one_mul]; exact Cong.refl _))
theorem sums2 (n k : Nat) (x : Int) (h : k < n) : nb (IL (nb (((n - k : Nat) : Int) * x)) - x) = nb (((n - (k + 1) : Nat) : Int) * x) := nb_cong (((nb_of _).sub (Cong.refl x)).trans (by
  have e : ((n - k : Nat) : Int) = ((n - (k + 1) : Nat) : Int) + 1 := by omega
  rw [e, Int.add_mul, Int.one_mul, Int.add_sub_cancel]
  exact Cong.refl _))
theorem sums3 (n : UInt8) (x : Int) : nb (((n.toNat : Nat) : Int) * x) = nb (x * IL (smL n)) := by rw [IL, leN_smL, Int.mul_comm]
theorem sums4 (n : Nat) (x : Int) : nb (((n - n : Nat) : Int) * x) = zer := by
  rw [Nat.sub_self]
  exact (sums0 x).symm

/-- Numbers just at the edges. -/
theorem edge1 : nb (IL (List.replicate 32 255)) = smL 37 := by decide +kernel
theorem edge2 : nb (IL ((List.replicate 32 255).set 31 127)) = smL 18 := by decide +kernel
theorem edge3 : nb (IL (((List.replicate 32 255).set 0 237).set 31 127)) = zer := by decide +kernel
theorem edge4 (n : UInt8) (h : n.toNat < 18) : nb (IL (((List.replicate 32 255).set 0 (237 + n)).set 31 127)) = smL n := by
  have e : ∀ k : Fin 18, nb (IL (((List.replicate 32 255).set 0 (237 + UInt8.ofNat k.val)).set 31 127)) = smL (UInt8.ofNat k.val) := by decide +kernel
  have := e ⟨n.toNat, h⟩
  simpa using this
theorem edge5 (n : UInt8) : nb (IL (nb (IL zer - IL (smL n))) + IL (smL n)) = zer := by
  refine (nb_zero_iff _).2 (cong_zero.1 (((nb_of _).add (Cong.refl _)).trans ?_))
  rw [IL, leN_zer, Int.natCast_zero, Int.zero_sub, Int.add_left_neg]
  exact Cong.refl _

end Go.Proofs.YtmiapjmdolecbaaDoor
