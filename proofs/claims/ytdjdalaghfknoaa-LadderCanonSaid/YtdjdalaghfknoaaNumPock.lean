/- A test by the factors of the number less 1, and that 2^255 - 19 is prime. No program. Each theorem names its own conditions. -/
import Derived.Test.YtdjdalaghfknoaaNumPrime
import Derived.KernelRfl
namespace Go.Proofs.Ytdjdalaghfknoaa
set_option linter.unusedVariables false

theorem pow_gcd {r b : Nat} : ∀ (u v : Nat), b ^ u % r = 1 % r → b ^ v % r = 1 % r → b ^ (Nat.gcd u v) % r = 1 % r := by
  intro u v
  induction u, v using Nat.gcd.induction with
  | H0 n =>
    intro _ h
    rwa [Nat.gcd_zero_left]
  | H1 m n hm ih =>
    intro h1 h2
    rw [Nat.gcd_rec]
    refine ih ?_ h1
    have e : b ^ n = (b ^ m) ^ (n / m) * b ^ (n % m) := by rw [← Nat.pow_mul, ← Nat.pow_add, Nat.div_add_mod]
    rw [e, Nat.mul_mod, Nat.pow_mod, h1, ← Nat.pow_mod, Nat.one_pow, ← Nat.mul_mod, Nat.one_mul] at h2
    exact h2

/-- A prime factor of the number less 1 divides each prime factor less 1. -/
theorem pock {r q m b : Nat} (hr : IsPrime r) (hq : IsPrime q) (h1 : b ^ (m * q) % r = 1 % r) (h2 : b ^ m % r ≠ 1 % r) : q ∣ r - 1 := by
  apply Classical.byContradiction
  intro hn
  have hg := hq.coprime hn
  have hr2 := hr.1
  have hc : (b ^ m) ^ q % r = 1 % r := by rw [← Nat.pow_mul]; exact h1
  have hnd : ¬ r ∣ b ^ m := fun hd => by
    obtain ⟨t, ht⟩ := hd
    rw [ht, Nat.pow_mod, Nat.mul_mod_right, Nat.zero_pow (by have := hq.1; omega), Nat.zero_mod, Nat.mod_eq_of_lt (by omega)] at hc
    omega
  have hf : (b ^ m) ^ (r - 1) % r = 1 % r := by
    rw [fermat1 hr hnd, Nat.mod_eq_of_lt (by omega)]
  have := pow_gcd q (r - 1) hc hf
  rw [hg, Nat.pow_one] at this
  exact h2 this

/-- b to the power e modulo n, by squares. -/
def pm (n : Nat) : Nat → Nat → Nat → Nat
  | 0, _, _ => 1 % n
  | f + 1, b, e => if e % 2 = 1 then b * pm n f (b * b % n) (e / 2) % n else pm n f (b * b % n) (e / 2)
theorem pm_eq {n : Nat} : ∀ (f b e : Nat), e < 2 ^ f → pm n f b e = b ^ e % n
  | 0, b, e, h => by
    have : e = 0 := by simpa using h
    subst this
    rfl
  | f + 1, b, e, h => by
    have hh : e / 2 < 2 ^ f := by rw [Nat.pow_succ] at h; omega
    have e1 : (b * b % n) ^ (e / 2) % n = b ^ (2 * (e / 2)) % n := by rw [← Nat.pow_mod, ← Nat.pow_two, ← Nat.pow_mul]
    simp only [pm, pm_eq f _ _ hh]
    by_cases ho : e % 2 = 1
    · rw [if_pos ho, e1, Nat.mul_mod, Nat.mod_mod, ← Nat.mul_mod, Nat.mul_comm b, ← Nat.pow_succ]
      congr 2
      omega
    · rw [if_neg ho, e1]
      congr 2
      omega

/-- What is to be reckoned for one prime factor q of N - 1. -/
def wit (N q b f : Nat) : Bool := decide ((N - 1) % q = 0) && decide (N - 1 < 2 ^ f) && decide (pm N f b (N - 1) = 1) && decide (Nat.gcd (pm N f b ((N - 1) / q) + (N - 1)) N = 1)
theorem wit_dvd {N q b f r : Nat} (hN : 2 ≤ N) (h : wit N q b f = true) (hq : IsPrime q) (hr : IsPrime r) (hd : r ∣ N) : q ∣ r - 1 := by
  unfold wit at h
  simp only [Bool.and_eq_true, decide_eq_true_eq] at h
  obtain ⟨⟨⟨h1, h2⟩, h3⟩, h4⟩ := h
  have hle : (N - 1) / q ≤ N - 1 := Nat.div_le_self _ _
  rw [pm_eq _ _ _ h2] at h3
  rw [pm_eq _ _ _ (by omega)] at h4
  have hm : (N - 1) / q * q = N - 1 := Nat.div_mul_cancel (Nat.dvd_of_mod_eq_zero h1)
  have hr2 := hr.1
  refine pock (m := (N - 1) / q) (b := b) hr hq ?_ ?_
  · rw [hm]
    obtain ⟨t, ht⟩ := hd
    have : b ^ (N - 1) % N % r = 1 % r := by rw [h3]
    rwa [Nat.mod_mod_of_dvd _ ⟨t, ht⟩] at this
  · intro hb
    have hdr : r ∣ b ^ ((N - 1) / q) % N + (N - 1) := by
      apply Nat.dvd_of_mod_eq_zero
      rw [Nat.add_mod, Nat.mod_mod_of_dvd _ hd, hb, ← Nat.add_mod]
      have : 1 + (N - 1) = N := by omega
      rw [this]
      exact Nat.mod_eq_zero_of_dvd hd
    have := Nat.dvd_gcd hdr hd
    rw [h4] at this
    have := Nat.le_of_dvd (by omega) this
    omega

/-- With one such factor, or two, whose product is great enough. -/
theorem prime_by1 {N q b f : Nat} (hN : 2 ≤ N) (hq : IsPrime q) (h : wit N q b f = true) (hF : N < (q + 1) * (q + 1)) : IsPrime N := by
  refine prime_of_roots hN (fun r hr hd => ?_)
  have h1 := wit_dvd hN h hq hr hd
  have hr2 := hr.1
  have := Nat.le_of_dvd (by omega) h1
  exact Nat.lt_of_lt_of_le hF (Nat.mul_le_mul (by omega) (by omega))
theorem prime_by2 {N q s b c f : Nat} (hN : 2 ≤ N) (hq : IsPrime q) (hs : IsPrime s) (hqs : q ≠ s) (h : wit N q b f = true) (h' : wit N s c f = true) (hF : N < (q * s + 1) * (q * s + 1)) : IsPrime N := by
  refine prime_of_roots hN (fun r hr hd => ?_)
  have h1 := wit_dvd hN h hq hr hd
  have h2 := wit_dvd hN h' hs hr hd
  have hr2 := hr.1
  have hc : Nat.Coprime q s := hq.coprime (fun hd => by
    rcases hs.2 q hd with e | e
    · have := hq.1; omega
    · exact hqs e)
  have := Nat.le_of_dvd (by omega) (hc.mul_dvd_of_dvd_of_dvd h1 h2)
  exact Nat.lt_of_lt_of_le hF (Nat.mul_le_mul (by omega) (by omega))

/-- Small ones: no number from 2 on whose square is no greater divides it. -/
def small (n m : Nat) : Bool := (List.range m).all fun d => decide (n % (d + 2) ≠ 0)
theorem prime_small {n m : Nat} (hn : 2 ≤ n) (h : small n m = true) (hm : n < (m + 2) * (m + 2)) : IsPrime n := by
  refine prime_of_roots hn (fun r hr hd => ?_)
  have hr2 := hr.1
  rcases Nat.lt_or_ge r (m + 2) with h1 | h1
  · unfold small at h
    rw [List.all_eq_true] at h
    have := h (r - 2) (by rw [List.mem_range]; omega)
    simp only [decide_eq_true_eq] at this
    rw [show r - 2 + 2 = r from by omega] at this
    exact absurd (Nat.mod_eq_zero_of_dvd hd) this
  · exact Nat.lt_of_lt_of_le hm (Nat.mul_le_mul h1 h1)

theorem prime_127 : IsPrime 127 := prime_small (m := 10) (by decide) (by decide +kernel) (by decide)
theorem prime_4153 : IsPrime 4153 := prime_small (m := 63) (by decide) (by decide +kernel) (by decide)
theorem prime_430751 : IsPrime 430751 := prime_small (m := 655) (by decide) (by decide +kernel) (by decide)
theorem prime_569003 : IsPrime 569003 := prime_small (m := 753) (by decide) (by decide +kernel) (by decide)
theorem prime_8574133 : IsPrime 8574133 := prime_small (m := 2927) (by decide) (by decide +kernel) (by decide)
theorem prime_a : IsPrime 2773320623 := prime_by1 (q := 569003) (b := 5) (f := 32) (by decide) prime_569003 (by decide +kernel) (by decide)
theorem prime_b : IsPrime 72106336199 := prime_by1 (q := 2773320623) (b := 2) (f := 37) (by decide) prime_a (by decide +kernel) (by decide)
theorem prime_c : IsPrime 1919519569386763 := prime_by2 (q := 8574133) (s := 127) (b := 2) (c := 2) (f := 51) (by decide) prime_8574133 prime_127 (by decide) (by decide +kernel) (by decide +kernel) (by decide)
theorem prime_d : IsPrime 31757755568855353 := prime_by2 (q := 430751) (s := 4153) (b := 2) (c := 2) (f := 55) (by decide) prime_430751 prime_4153 (by decide) (by decide +kernel) (by decide +kernel) (by decide)
theorem prime_e : IsPrime 75445702479781427272750846543864801 := prime_by2 (q := 1919519569386763) (s := 72106336199) (b := 2) (c := 2) (f := 116) (by decide) prime_c prime_b (by decide) (by decide +kernel) (by decide +kernel) (by decide)
theorem prime_f : IsPrime 74058212732561358302231226437062788676166966415465897661863160754340907 := prime_by2 (q := 75445702479781427272750846543864801) (s := 31757755568855353) (b := 2) (c := 2) (f := 236) (by decide) prime_e prime_d (by decide) (by decide +kernel) (by decide +kernel) (by decide)
/-- 2^255 - 19. -/
theorem prime_p : IsPrime 57896044618658097711785492504343953926634992332820282019728792003956564819949 := prime_by1 (q := 74058212732561358302231226437062788676166966415465897661863160754340907) (b := 2) (f := 255) (by decide) prime_f (by decide +kernel) (by decide)

end Go.Proofs.Ytdjdalaghfknoaa
