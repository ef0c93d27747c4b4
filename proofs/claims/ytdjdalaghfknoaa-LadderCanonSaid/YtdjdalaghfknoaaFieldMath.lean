/- Numbers modulo p = 2^255 - 19: a field; powers; squares and their roots. No program. Each theorem names its own conditions. -/
import Derived.Test.YtdjdalaghfknoaaNumPock
import Derived.Test.YtdjdalaghfknoaaFieldP
namespace Go.Proofs.Ytdjdalaghfknoaa
set_option linter.unusedVariables false

theorem prime_pN : IsPrime pN := prime_p

theorem p_domain {x y : Int} (h : pP ∣ x * y) : pP ∣ x ∨ pP ∣ y := by
  rw [pP_nat] at *
  have h1 := Int.natAbs_dvd_natAbs.2 h
  rw [Int.natAbs_mul, Int.natAbs_natCast] at h1
  rcases prime_pN.dvd_mul h1 with h2 | h2
  · exact Or.inl (Int.natAbs_dvd_natAbs.1 (by rw [Int.natAbs_natCast]; exact h2))
  · exact Or.inr (Int.natAbs_dvd_natAbs.1 (by rw [Int.natAbs_natCast]; exact h2))

/-- x and y are one modulo p. -/
def Cong (x y : Int) : Prop := pP ∣ x - y
theorem Cong.refl (x : Int) : Cong x x := by unfold Cong; rw [Int.sub_self]; exact Int.dvd_zero _
theorem Cong.symm {x y : Int} (h : Cong x y) : Cong y x := by
  obtain ⟨q, hq⟩ := h
  exact ⟨-q, by grind⟩
theorem Cong.trans {x y z : Int} (h : Cong x y) (g : Cong y z) : Cong x z := by
  obtain ⟨q, hq⟩ := h
  obtain ⟨r, hr⟩ := g
  exact ⟨q + r, by grind⟩
theorem Cong.add {x y u v : Int} (h : Cong x y) (g : Cong u v) : Cong (x + u) (y + v) := by
  obtain ⟨q, hq⟩ := h
  obtain ⟨r, hr⟩ := g
  exact ⟨q + r, by grind⟩
theorem Cong.sub {x y u v : Int} (h : Cong x y) (g : Cong u v) : Cong (x - u) (y - v) := by
  obtain ⟨q, hq⟩ := h
  obtain ⟨r, hr⟩ := g
  exact ⟨q - r, by grind⟩
theorem Cong.mul {x y u v : Int} (h : Cong x y) (g : Cong u v) : Cong (x * u) (y * v) := by
  obtain ⟨q, hq⟩ := h
  obtain ⟨r, hr⟩ := g
  exact ⟨q * u + y * r, by
    have : x = y + pP * q := by grind
    have : u = v + pP * r := by grind
    subst x
    subst u
    grind⟩
theorem Cong.pow {x y : Int} (h : Cong x y) : ∀ n : Nat, Cong (x ^ n) (y ^ n)
  | 0 => by
    rw [Int.pow_zero, Int.pow_zero]
    exact Cong.refl _
  | n + 1 => by
    rw [Int.pow_succ, Int.pow_succ]
    exact (Cong.pow h n).mul h
theorem cong_iff {x y : Int} : Cong x y ↔ x % pP = y % pP := by
  constructor
  · intro h
    exact Int.emod_eq_emod_iff_emod_sub_eq_zero.2 (Int.emod_eq_zero_of_dvd h)
  · intro h
    exact Int.dvd_of_emod_eq_zero (Int.emod_eq_emod_iff_emod_sub_eq_zero.1 h)
theorem cong_mod (x : Int) : Cong (x % pP) x := by
  rw [cong_iff, Int.emod_emod]

theorem p_fermat {x : Int} (h : ¬ pP ∣ x) : Cong (x ^ (pN - 1)) 1 := by
  have hp0 : (0 : Int) < pP := by decide +kernel
  have h0 := Int.emod_nonneg x (show pP ≠ 0 by omega)
  obtain ⟨a, ha⟩ := Int.eq_ofNat_of_zero_le h0
  have hna : ¬ pN ∣ a := fun hd => h (by
    apply Int.dvd_of_emod_eq_zero
    have hlt := Int.emod_lt_of_pos x hp0
    rw [ha] at hlt ⊢
    obtain ⟨t, ht⟩ := hd
    rw [pP_nat] at hlt
    have : a < pN := by omega
    have ht0 : t = 0 := by
      rcases Nat.eq_zero_or_pos t with e | e
      · exact e
      · have := Nat.le_mul_of_pos_right pN e
        omega
    subst ht0
    rw [ht]
    simp)
  have hf := fermat1 prime_pN hna
  have h1 : Cong ((a : Int) ^ (pN - 1)) 1 := by
    rw [cong_iff, pP_nat, ← Int.natCast_pow]
    have : (1 : Int) % (pN : Int) = ((1 % pN : Nat) : Int) := by rw [Int.natCast_emod]; rfl
    rw [this, ← Int.natCast_emod, hf]
    rfl
  have h2 := (cong_mod x).pow (pN - 1)
  rw [ha] at h2
  exact h2.symm.trans h1

end Go.Proofs.Ytdjdalaghfknoaa
