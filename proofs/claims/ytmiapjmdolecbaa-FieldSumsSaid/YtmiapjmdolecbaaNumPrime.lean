/- Prime numbers, as far as chapter 3 wants them: Fermat's little theorem; a test by the factors of the number less 1; that 2^255 - 19 is prime. No program. Each theorem names its own conditions. -/
import Derived.Test.YtmiapjmdolecbaaProg
namespace Go.Proofs.Ytmiapjmdolecbaa
set_option linter.unusedVariables false

def IsPrime (p : Nat) : Prop := 2 ≤ p ∧ ∀ d, d ∣ p → d = 1 ∨ d = p

theorem IsPrime.coprime {p a : Nat} (h : IsPrime p) (ha : ¬ p ∣ a) : Nat.Coprime p a := by
  rcases h.2 _ (Nat.gcd_dvd_left p a) with h1 | h1
  · exact h1
  · exact absurd (h1 ▸ Nat.gcd_dvd_right p a) ha
theorem IsPrime.dvd_mul {p a b : Nat} (h : IsPrime p) (hd : p ∣ a * b) : p ∣ a ∨ p ∣ b := by
  by_cases ha : p ∣ a
  · exact Or.inl ha
  · exact Or.inr ((h.coprime ha).dvd_of_dvd_mul_left hd)

/-- Every number but 1 has a prime that divides it, no greater than any other number but 1 that does. -/
theorem exists_prime_dvd : ∀ (n : Nat), 2 ≤ n → ∃ r, IsPrime r ∧ r ∣ n
  | n, hn => by
    by_cases h : ∀ d, d ∣ n → d = 1 ∨ d = n
    · exact ⟨n, ⟨hn, h⟩, Nat.dvd_refl n⟩
    · obtain ⟨d, hd⟩ := Classical.not_forall.1 h
      rw [Classical.not_imp] at hd
      obtain ⟨hdn, hd2⟩ := hd
      have h1 : d ≠ 1 := fun e => hd2 (Or.inl e)
      have h2 : d ≠ n := fun e => hd2 (Or.inr e)
      have h3 : d ≤ n := Nat.le_of_dvd (by omega) hdn
      have h0 : d ≠ 0 := fun e => by
        subst e
        have := Nat.eq_zero_of_zero_dvd hdn
        omega
      obtain ⟨r, hr, hrd⟩ := exists_prime_dvd d (by omega)
      exact ⟨r, hr, Nat.dvd_trans hrd hdn⟩
  termination_by n => n

/-- A number of which no prime whose square is no greater divides it is prime. -/
theorem prime_of_roots {n : Nat} (hn : 2 ≤ n) (h : ∀ r, IsPrime r → r ∣ n → n < r * r) : IsPrime n := by
  refine ⟨hn, fun d hd => ?_⟩
  by_cases h1 : d = 1
  · exact Or.inl h1
  · by_cases h2 : d = n
    · exact Or.inr h2
    · exfalso
      obtain ⟨e, he⟩ := hd
      have hd0 : d ≠ 0 := fun e => by subst e; omega
      have he0 : e ≠ 0 := fun e' => by subst e'; omega
      have he1 : e ≠ 1 := fun e' => by subst e'; omega
      obtain ⟨r, hr, hrd⟩ := exists_prime_dvd d (by omega)
      obtain ⟨s, hs, hse⟩ := exists_prime_dvd e (by omega)
      have a1 := h r hr (he ▸ Nat.dvd_trans hrd (Nat.dvd_mul_right d e))
      have a2 := h s hs (he ▸ Nat.dvd_trans hse (Nat.dvd_mul_left e d))
      have b1 := Nat.le_of_dvd (by omega) hrd
      have b2 := Nat.le_of_dvd (by omega) hse
      have c1 := Nat.mul_le_mul b1 b1
      have c2 := Nat.mul_le_mul b2 b2
      have d1 : d * e < d * d := by omega
      have d2 : d * e < e * e := by omega
      have e1 := Nat.lt_of_mul_lt_mul_left d1
      have e2 : d < e := by
        rw [Nat.mul_comm d e] at d2
        exact Nat.lt_of_mul_lt_mul_left d2
      omega

/-! ### Fermat's little theorem -/

def ch : Nat → Nat → Nat
  | _, 0 => 1
  | 0, _ + 1 => 0
  | n + 1, k + 1 => ch n k + ch n (k + 1)
theorem ch_mul : ∀ (n k : Nat), (k + 1) * ch (n + 1) (k + 1) = (n + 1) * ch n k
  | 0, 0 => by simp [ch]
  | 0, k + 1 => by simp [ch]
  | n + 1, 0 => by
    have := ch_mul n 0
    simp only [ch] at this ⊢
    omega
  | n + 1, k + 1 => by
    have h1 := ch_mul n k
    have h2 := ch_mul n (k + 1)
    have e : ch (n + 1 + 1) (k + 1 + 1) = ch (n + 1) (k + 1) + ch (n + 1) (k + 1 + 1) := rfl
    have e2 : ch (n + 1) (k + 1) = ch n k + ch n (k + 1) := rfl
    rw [e, Nat.mul_add, h2]
    have e3 : (k + 1 + 1) * ch (n + 1) (k + 1) = (k + 1) * ch (n + 1) (k + 1) + ch (n + 1) (k + 1) := by rw [Nat.add_mul (k + 1) 1, Nat.one_mul]
    rw [e3, h1, e2, Nat.mul_add (n + 1 + 1), Nat.add_mul (n + 1) 1 (ch n k), Nat.add_mul (n + 1) 1 (ch n (k + 1))]
    omega
theorem ch_over : ∀ (n k : Nat), n < k → ch n k = 0
  | _, 0, h => by omega
  | 0, k + 1, _ => rfl
  | n + 1, k + 1, h => by
    show ch n k + ch n (k + 1) = 0
    rw [ch_over n k (by omega), ch_over n (k + 1) (by omega)]
theorem ch_self : ∀ (n : Nat), ch n n = 1
  | 0 => rfl
  | n + 1 => by
    show ch n n + ch n (n + 1) = 1
    rw [ch_self n, ch_over n (n + 1) (by omega)]

/-- The sum of f below m. -/
def sumTo (f : Nat → Nat) : Nat → Nat
  | 0 => 0
  | m + 1 => sumTo f m + f m
theorem sumTo_shift (f : Nat → Nat) : ∀ m, sumTo f (m + 1) = f 0 + sumTo (fun k => f (k + 1)) m
  | 0 => by simp [sumTo]
  | m + 1 => by
    have := sumTo_shift f m
    simp only [sumTo] at this ⊢
    omega
theorem sumTo_add (f g : Nat → Nat) : ∀ m, sumTo (fun k => f k + g k) m = sumTo f m + sumTo g m
  | 0 => rfl
  | m + 1 => by
    have := sumTo_add f g m
    simp only [sumTo] at this ⊢
    omega
theorem sumTo_mul (c : Nat) (f : Nat → Nat) : ∀ m, sumTo (fun k => c * f k) m = c * sumTo f m
  | 0 => by simp [sumTo]
  | m + 1 => by
    have := sumTo_mul c f m
    simp only [sumTo, this, Nat.mul_add]
theorem sumTo_congr {f g : Nat → Nat} : ∀ m, (∀ k, k < m → f k = g k) → sumTo f m = sumTo g m
  | 0, _ => rfl
  | m + 1, h => by
    simp only [sumTo]
    rw [sumTo_congr m (fun k hk => h k (by omega)), h m (by omega)]

theorem binom (a : Nat) : ∀ n, (a + 1) ^ n = sumTo (fun k => ch n k * a ^ k) (n + 1)
  | 0 => by simp [sumTo, ch]
  | n + 1 => by
    have ih := binom a n
    have e1 : sumTo (fun k => ch (n + 1) k * a ^ k) (n + 1 + 1) = 1 + sumTo (fun k => ch (n + 1) (k + 1) * a ^ (k + 1)) (n + 1) := by
      rw [sumTo_shift]
      simp [ch]
    have e2 : sumTo (fun k => ch (n + 1) (k + 1) * a ^ (k + 1)) (n + 1) = a * sumTo (fun k => ch n k * a ^ k) (n + 1) + sumTo (fun k => ch n (k + 1) * a ^ (k + 1)) (n + 1) := by
      rw [← sumTo_mul, ← sumTo_add]
      refine sumTo_congr _ (fun k _ => ?_)
      show (ch n k + ch n (k + 1)) * a ^ (k + 1) = _
      rw [Nat.add_mul, Nat.pow_succ, Nat.mul_left_comm a, Nat.mul_comm a]
    have e3 : sumTo (fun k => ch n k * a ^ k) (n + 1 + 1) = 1 + sumTo (fun k => ch n (k + 1) * a ^ (k + 1)) (n + 1) := by
      rw [sumTo_shift]
      cases n <;> simp [ch]
    have e4 : sumTo (fun k => ch n k * a ^ k) (n + 1 + 1) = sumTo (fun k => ch n k * a ^ k) (n + 1) := by
      simp [sumTo, ch_over n (n + 1) (by omega)]
    rw [Nat.pow_succ, ih, e1, e2]
    rw [e4] at e3
    rw [Nat.mul_add, Nat.mul_one, Nat.mul_comm a]
    omega

theorem prime_ch {p k : Nat} (h : IsPrime p) (h0 : 0 < k) (hk : k < p) : p ∣ ch p k := by
  obtain ⟨k, rfl⟩ : ∃ j, k = j + 1 := ⟨k - 1, by omega⟩
  obtain ⟨n, rfl⟩ : ∃ n, p = n + 1 := ⟨p - 1, by omega⟩
  have hm := ch_mul n k
  rcases h.dvd_mul (a := k + 1) (b := ch (n + 1) (k + 1)) (hm ▸ Nat.dvd_mul_right _ _) with h1 | h1
  · have := Nat.le_of_dvd (by omega) h1
    omega
  · exact h1
theorem sumTo_dvd {p : Nat} {f : Nat → Nat} : ∀ m, (∀ k, k < m → p ∣ f k) → p ∣ sumTo f m
  | 0, _ => Nat.dvd_zero p
  | m + 1, h => Nat.dvd_add (sumTo_dvd m (fun k hk => h k (by omega))) (h m (by omega))

theorem fermat {p : Nat} (h : IsPrime p) : ∀ a, a ^ p % p = a % p
  | 0 => by
    rw [Nat.zero_pow (by have := h.1; omega)]
  | a + 1 => by
    have ih := fermat h a
    obtain ⟨n, rfl⟩ : ∃ n, p = n + 1 := ⟨p - 1, by have := h.1; omega⟩
    have hd : (n + 1) ∣ sumTo (fun k => ch (n + 1) (k + 1) * a ^ (k + 1)) n := sumTo_dvd n (fun k hk => Nat.dvd_trans (prime_ch h (by omega) (by omega)) (Nat.dvd_mul_right _ _))
    have e : (a + 1) ^ (n + 1) = 1 + sumTo (fun k => ch (n + 1) (k + 1) * a ^ (k + 1)) n + a ^ (n + 1) := by
      rw [binom, sumTo_shift]
      simp only [sumTo, ch_self]
      simp [ch]
      omega
    obtain ⟨t, ht⟩ := hd
    rw [e, ht]
    generalize a ^ (n + 1) = X at *
    generalize n + 1 = q at *
    rw [show 1 + q * t + X = 1 + X + q * t from by omega, Nat.add_mul_mod_self_left, Nat.add_mod, ih, ← Nat.add_mod, Nat.add_comm]

theorem fermat1 {p a : Nat} (h : IsPrime p) (ha : ¬ p ∣ a) : a ^ (p - 1) % p = 1 := by
  have hf := fermat h a
  have hp := h.1
  obtain ⟨n, rfl⟩ : ∃ n, p = n + 1 := ⟨p - 1, by omega⟩
  have ha0 : 0 < a := by
    rcases Nat.eq_zero_or_pos a with e | e
    · subst e
      exact absurd (Nat.dvd_zero _) ha
    · exact e
  have hpos : 0 < a ^ n := Nat.pow_pos ha0
  rw [Nat.pow_succ] at hf
  have hle : a ≤ a ^ n * a := Nat.le_mul_of_pos_left a hpos
  have hd : (n + 1) ∣ a ^ n * a - a := (Nat.dvd_iff_mod_eq_zero).2 (Nat.sub_mod_eq_zero_of_mod_eq hf)
  have e : a ^ n * a - a = a * (a ^ n - 1) := by rw [Nat.mul_sub, Nat.mul_one, Nat.mul_comm a]
  rw [e] at hd
  rcases h.dvd_mul hd with h1 | h1
  · exact absurd h1 ha
  · rw [Nat.add_sub_cancel]
    obtain ⟨t, ht⟩ := h1
    have : a ^ n = 1 + (n + 1) * t := by omega
    rw [this, Nat.add_mul_mod_self_left]
    exact Nat.mod_eq_of_lt (by omega)

end Go.Proofs.Ytmiapjmdolecbaa
