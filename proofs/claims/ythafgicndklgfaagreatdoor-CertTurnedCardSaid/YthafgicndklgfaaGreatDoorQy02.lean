/- Lemmas. -/
import Derived.Test.YthafgicndklgfaaGreatDoorQy01
namespace Go.Proofs.YthafgicndklgfaaGreatDoor
set_option linter.unusedVariables false
set_option linter.unusedSimpArgs false
open Go.RowKit
theorem pow_gcd {r b : Nat} : ∀ (u v : Nat), b ^ u % r = 1 % r → b ^ v % r = 1 % r → b ^ (Nat.gcd u v) % r = 1 % r := by
 intro u v
 induction u, v using Nat.gcd.induction with
 | H0 n =>
  intro _ h
  rwa [Nat.gcd_zero_left]
 | H1 m n hm ih =>
  intro h1 h2
  rw [Nat.gcd_rec]
  refine ih ?_ h1
  have e : b ^ n = (b ^ m) ^ (n / m) * b ^ (n % m) := by rw [← Nat.pow_mul, ← Nat.pow_add, Nat.div_add_mod]
  rw [e, Nat.mul_mod, Nat.pow_mod, h1, ← Nat.pow_mod, Nat.one_pow, ← Nat.mul_mod, Nat.one_mul] at h2
  exact h2
theorem pock {r q m b : Nat} (hr : IsPrime r) (hq : IsPrime q) (h1 : b ^ (m * q) % r = 1 % r) (h2 : b ^ m % r ≠ 1 % r) : q ∣ r - 1 := by
 apply Classical.byContradiction
 intro hn
 have hg := hq.coprime hn
 have hr2 := hr.1
 have hc : (b ^ m) ^ q % r = 1 % r := by rw [← Nat.pow_mul]; exact h1
 have hnd : ¬ r ∣ b ^ m := fun hd => by
  obtain ⟨t, ht⟩ := hd
  rw [ht, Nat.pow_mod, Nat.mul_mod_right, Nat.zero_pow (by have := hq.1; omega), Nat.zero_mod, q120 (by omega)] at hc
  omega
 have hf : (b ^ m) ^ (r - 1) % r = 1 % r := by
  rw [fermat1 hr hnd, q120 (by omega)]
 have := pow_gcd q (r - 1) hc hf
 rw [hg, Nat.pow_one] at this
 exact h2 this
def pm (n : Nat) : Nat → Nat → Nat → Nat
 | 0, _, _ => 1 % n
 | f + 1, b, e => if e % 2 = 1 then b * pm n f (b * b % n) (e / 2) % n else pm n f (b * b % n) (e / 2)
theorem pm_eq {n : Nat} : ∀ (f b e : Nat), e < 2 ^ f → pm n f b e = b ^ e % n
 | 0, b, e, h => by
  have : e = 0 := by simpa using h
  subst this
  rfl
 | f + 1, b, e, h => by
  have hh : e / 2 < 2 ^ f := by rw [q128] at h; omega
  have e1 : (b * b % n) ^ (e / 2) % n = b ^ (2 * (e / 2)) % n := by rw [← Nat.pow_mod, ← Nat.pow_two, ← Nat.pow_mul]
  simp only [pm, pm_eq f _ _ hh]
  by_cases ho : e % 2 = 1
  ·rw [if_pos ho, e1, Nat.mul_mod, Nat.mod_mod, ← Nat.mul_mod, q129 b, ← q128]
   congr 2
   omega
  ·rw [if_neg ho, e1]
   congr 2
   omega
def wit (N q b f : Nat) : Bool := decide ((N - 1) % q = 0) && decide (N - 1 < 2 ^ f) && decide (pm N f b (N - 1) = 1) && decide (Nat.gcd (pm N f b ((N - 1) / q) + (N - 1)) N = 1)
theorem wit_dvd {N q b f r : Nat} (hN : 2 ≤ N) (h : wit N q b f = true) (hq : IsPrime q) (hr : IsPrime r) (hd : r ∣ N) : q ∣ r - 1 := by
 unfold wit at h
 simp only [Bool.and_eq_true, decide_eq_true_eq] at h
 obtain ⟨⟨⟨h1, h2⟩, h3⟩, h4⟩ := h
 have hle : (N - 1) / q ≤ N - 1 := Nat.div_le_self _ _
 rw [pm_eq _ _ _ h2] at h3
 rw [pm_eq _ _ _ (by omega)] at h4
 have hm : (N - 1) / q * q = N - 1 := Nat.div_mul_cancel (Nat.dvd_of_mod_eq_zero h1)
 have hr2 := hr.1
 refine pock (m := (N - 1) / q) (b := b) hr hq ?_ ?_
 ·rw [hm]
  obtain ⟨t, ht⟩ := hd
  have : b ^ (N - 1) % N % r = 1 % r := by rw [h3]
  rwa [Nat.mod_mod_of_dvd _ ⟨t, ht⟩] at this
 ·intro hb
  have hdr : r ∣ b ^ ((N - 1) / q) % N + (N - 1) := by
   apply Nat.dvd_of_mod_eq_zero
   rw [Nat.add_mod, Nat.mod_mod_of_dvd _ hd, hb, ← Nat.add_mod]
   have : 1 + (N - 1) = N := by omega
   rw [this]
   exact Nat.mod_eq_zero_of_dvd hd
  have := Nat.dvd_gcd hdr hd
  rw [h4] at this
  have := Nat.le_of_dvd (by omega) this
  omega
theorem prime_by1 {N q b f : Nat} (hN : 2 ≤ N) (hq : IsPrime q) (h : wit N q b f = true) (hF : N < (q + 1) * (q + 1)) : IsPrime N := by
 refine prime_of_roots hN (fun r hr hd => ?_)
 have h1 := wit_dvd hN h hq hr hd
 have hr2 := hr.1
 have := Nat.le_of_dvd (by omega) h1
 exact q114 hF (Nat.mul_le_mul (by omega) (by omega))
theorem prime_by2 {N q s b c f : Nat} (hN : 2 ≤ N) (hq : IsPrime q) (hs : IsPrime s) (hqs : q ≠ s) (h : wit N q b f = true) (h' : wit N s c f = true) (hF : N < (q * s + 1) * (q * s + 1)) : IsPrime N := by
 refine prime_of_roots hN (fun r hr hd => ?_)
 have h1 := wit_dvd hN h hq hr hd
 have h2 := wit_dvd hN h' hs hr hd
 have hr2 := hr.1
 have hc : Nat.Coprime q s := hq.coprime (fun hd => by
  rcases hs.2 q hd with e | e
  ·have := hq.1; omega
  ·exact hqs e)
 have := Nat.le_of_dvd (by omega) (hc.mul_dvd_of_dvd_of_dvd h1 h2)
 exact q114 hF (Nat.mul_le_mul (by omega) (by omega))
def small (n m : Nat) : Bool := (List.range m).all fun d => decide (n % (d + 2) ≠ 0)
theorem prime_small {n m : Nat} (hn : 2 ≤ n) (h : small n m = true) (hm : n < (m + 2) * (m + 2)) : IsPrime n := by
 refine prime_of_roots hn (fun r hr hd => ?_)
 have hr2 := hr.1
 rcases q116 r (m + 2) with h1 | h1
 ·unfold small at h
  rw [List.all_eq_true] at h
  have := h (r - 2) (by rw [List.mem_range]; omega)
  simp only [decide_eq_true_eq] at this
  rw [show r - 2 + 2 = r from by omega] at this
  exact absurd (Nat.mod_eq_zero_of_dvd hd) this
 ·exact q114 hm (Nat.mul_le_mul h1 h1)
theorem prime_127 : IsPrime 127 := prime_small (m := 10) (by decide) (by decide +kernel) (by decide)
theorem prime_4153 : IsPrime 4153 := prime_small (m := 63) (by decide) (by decide +kernel) (by decide)
theorem prime_430751 : IsPrime 430751 := prime_small (m := 655) (by decide) (by decide +kernel) (by decide)
theorem prime_569003 : IsPrime 569003 := prime_small (m := 753) (by decide) (by decide +kernel) (by decide)
theorem prime_8574133 : IsPrime 8574133 := prime_small (m := 2927) (by decide) (by decide +kernel) (by decide)
theorem prime_a : IsPrime 2773320623 := prime_by1 (q := 569003) (b := 5) (f := 32) (by decide) prime_569003 (by decide +kernel) (by decide)
theorem prime_b : IsPrime 72106336199 := prime_by1 (q := 2773320623) (b := 2) (f := 37) (by decide) prime_a (by decide +kernel) (by decide)
theorem prime_c : IsPrime 1919519569386763 := prime_by2 (q := 8574133) (s := 127) (b := 2) (c := 2) (f := 51) (by decide) prime_8574133 prime_127 (by decide) (by decide +kernel) (by decide +kernel) (by decide)
theorem prime_d : IsPrime 31757755568855353 := prime_by2 (q := 430751) (s := 4153) (b := 2) (c := 2) (f := 55) (by decide) prime_430751 prime_4153 (by decide) (by decide +kernel) (by decide +kernel) (by decide)
theorem prime_e : IsPrime 75445702479781427272750846543864801 := prime_by2 (q := 1919519569386763) (s := 72106336199) (b := 2) (c := 2) (f := 116) (by decide) prime_c prime_b (by decide) (by decide +kernel) (by decide +kernel) (by decide)
theorem prime_f : IsPrime 74058212732561358302231226437062788676166966415465897661863160754340907 := prime_by2 (q := 75445702479781427272750846543864801) (s := 31757755568855353) (b := 2) (c := 2) (f := 236) (by decide) prime_e prime_d (by decide) (by decide +kernel) (by decide +kernel) (by decide)
theorem prime_p : IsPrime 57896044618658097711785492504343953926634992332820282019728792003956564819949 := prime_by1 (q := 74058212732561358302231226437062788676166966415465897661863160754340907) (b := 2) (f := 255) (by decide) prime_f (by decide +kernel) (by decide)
theorem prime_pN : IsPrime pN := prime_p
theorem p_domain {x y : Int} (h : pP ∣ x * y) : pP ∣ x ∨ pP ∣ y := by
 rw [pP_nat] at *
 have h1 := Int.natAbs_dvd_natAbs.2 h
 rw [Int.natAbs_mul, Int.natAbs_natCast] at h1
 rcases prime_pN.dvd_mul h1 with h2 | h2
 ·exact Or.inl (Int.natAbs_dvd_natAbs.1 (by rw [Int.natAbs_natCast]; exact h2))
 ·exact Or.inr (Int.natAbs_dvd_natAbs.1 (by rw [Int.natAbs_natCast]; exact h2))
def Cong (x y : Int) : Prop := pP ∣ x - y
theorem Cong.refl (x : Int) : Cong x x := by unfold Cong; rw [Int.sub_self]; exact Int.dvd_zero _
theorem Cong.symm {x y : Int} (h : Cong x y) : Cong y x := by
 obtain ⟨q, hq⟩ := h
 exact ⟨-q, by grind⟩
theorem Cong.trans {x y z : Int} (h : Cong x y) (g : Cong y z) : Cong x z := by
 obtain ⟨q, hq⟩ := h
 obtain ⟨r, hr⟩ := g
 exact ⟨q + r, by grind⟩
theorem Cong.add {x y u v : Int} (h : Cong x y) (g : Cong u v) : Cong (x + u) (y + v) := by
 obtain ⟨q, hq⟩ := h
 obtain ⟨r, hr⟩ := g
 exact ⟨q + r, by grind⟩
theorem Cong.sub {x y u v : Int} (h : Cong x y) (g : Cong u v) : Cong (x - u) (y - v) := by
 obtain ⟨q, hq⟩ := h
 obtain ⟨r, hr⟩ := g
 exact ⟨q - r, by grind⟩
theorem Cong.mul {x y u v : Int} (h : Cong x y) (g : Cong u v) : Cong (x * u) (y * v) := by
 obtain ⟨q, hq⟩ := h
 obtain ⟨r, hr⟩ := g
 exact ⟨q * u + y * r, by
  have : x = y + pP * q := by grind
  have : u = v + pP * r := by grind
  subst x
  subst u
  grind⟩
theorem Cong.pow {x y : Int} (h : Cong x y) : ∀ n : Nat, Cong (x ^ n) (y ^ n)
 | 0 => by
  rw [Int.pow_zero, Int.pow_zero]
  exact Cong.refl _
 | n + 1 => by
  rw [q122, q122]
  exact (Cong.pow h n).mul h
theorem cong_iff {x y : Int} : Cong x y ↔ x % pP = y % pP := by
 constructor
 ·intro h
  exact Int.emod_eq_emod_iff_emod_sub_eq_zero.2 (Int.emod_eq_zero_of_dvd h)
 ·intro h
  exact Int.dvd_of_emod_eq_zero (Int.emod_eq_emod_iff_emod_sub_eq_zero.1 h)
theorem cong_mod (x : Int) : Cong (x % pP) x := by
 rw [cong_iff, Int.emod_emod]
theorem p_fermat {x : Int} (h : ¬ pP ∣ x) : Cong (x ^ (pN - 1)) 1 := by
 have hp0 : (0 : Int) < pP := by decide +kernel
 have h0 := Int.emod_nonneg x (show pP ≠ 0 by omega)
 obtain ⟨a, ha⟩ := Int.eq_ofNat_of_zero_le h0
 have hna : ¬ pN ∣ a := fun hd => h (by
  apply Int.dvd_of_emod_eq_zero
  have hlt := q172 x hp0
  rw [ha] at hlt ⊢
  obtain ⟨t, ht⟩ := hd
  rw [pP_nat] at hlt
  have : a < pN := by omega
  have ht0 : t = 0 := by
   rcases q150 t with e | e
   ·exact e
   ·have := Nat.le_mul_of_pos_right pN e
    omega
  subst ht0
  rw [ht]
  simp)
 have hf := fermat1 prime_pN hna
 have h1 : Cong ((a : Int) ^ (pN - 1)) 1 := by
  rw [cong_iff, pP_nat, ← Int.natCast_pow]
  have : (1 : Int) % (pN : Int) = ((1 % pN : Nat) : Int) := by rw [Int.natCast_emod]; rfl
  rw [this, ← Int.natCast_emod, hf]
  rfl
 have h2 := (cong_mod x).pow (pN - 1)
 rw [ha] at h2
 exact h2.symm.trans h1
def pM : Nat := 28948022309329048855892746252171976963317496166410141009864396001978282409974
def pE : Nat := 7237005577332262213973186563042994240829374041602535252466099000494570602494
theorem pM_two : pN - 1 = pM + pM := by decide +kernel
theorem pE_four : pE + pE + (pE + pE) = pM + 2 := by decide +kernel
def sm1 : Int := 19681161376707505956807079304988542015446066515923890162744021073123829784752
theorem sm1_sq : Cong (sm1 * sm1) (-1) := by
 have : pP ∣ sm1 * sm1 - -1 := by decide +kernel
 exact this
theorem cong_zero {x : Int} : Cong x 0 ↔ pP ∣ x := by unfold Cong; rw [Int.sub_zero]
theorem p_one : ¬ pP ∣ (1 : Int) := by decide +kernel
theorem p_two : ¬ pP ∣ (2 : Int) := by decide +kernel
theorem cong_mul_zero {x y : Int} (h : Cong (x * y) 0) : Cong x 0 ∨ Cong y 0 := by
 rw [cong_zero] at h
 rcases p_domain h with h | h
 ·exact Or.inl (cong_zero.2 h)
 ·exact Or.inr (cong_zero.2 h)
theorem cong_sq {x y : Int} (h : Cong (x * x) (y * y)) : Cong x y ∨ Cong x (-y) := by
 have : Cong ((x - y) * (x + y)) 0 := by
  obtain ⟨q, hq⟩ := h
  exact ⟨q, by grind⟩
 rcases cong_mul_zero this with h | h
 ·left
  obtain ⟨q, hq⟩ := h
  exact ⟨q, by grind⟩
 ·right
  obtain ⟨q, hq⟩ := h
  exact ⟨q, by grind⟩
theorem half_of_square {x r : Int} (h : ¬ pP ∣ x) (hr : Cong (r * r) x) : Cong (x ^ pM) 1 := by
 have hr0 : ¬ pP ∣ r := fun hd => h (by
  obtain ⟨q, hq⟩ := hd
  obtain ⟨t, ht⟩ := hr
  exact ⟨q * r - t, by grind⟩)
 have h1 := hr.symm.pow pM
 have h2 : (r * r) ^ pM = r ^ (pN - 1) := by rw [pM_two, q135, Int.mul_pow]
 rw [h2] at h1
 exact h1.trans (p_fermat hr0)
theorem eighth_power {x : Int} (h : Cong (x ^ pM) 1) : Cong (x ^ pE * x ^ pE) x ∨ Cong (x ^ pE * sm1 * (x ^ pE * sm1)) x := by
 have e : x ^ pE * x ^ pE * (x ^ pE * x ^ pE) = x ^ pM * (x * x) := by
  rw [← q135, ← q135, pE_four, q135, q122, q122, Int.pow_zero, Int.one_mul]
 have h1 : Cong (x ^ pE * x ^ pE * (x ^ pE * x ^ pE)) (x * x) := by
  rw [e]
  have := h.mul (Cong.refl (x * x))
  rwa [Int.one_mul] at this
 rcases cong_sq h1 with h2 | h2
 ·exact Or.inl h2
 ·right
  have h3 := h2.mul sm1_sq
  have e2 : x ^ pE * sm1 * (x ^ pE * sm1) = x ^ pE * x ^ pE * (sm1 * sm1) := by grind
  rw [e2]
  have e3 : -x * -1 = x := by omega
  rwa [e3] at h3
theorem root_found {x : Int} (h : ¬ pP ∣ x) : (Cong (x ^ pE * x ^ pE) x ∨ Cong (x ^ pE * sm1 * (x ^ pE * sm1)) x) ↔ Cong (x ^ pM) 1 :=
 ⟨fun hr => by rcases hr with hr | hr <;> exact half_of_square h hr, eighth_power⟩
theorem inv_undo {x : Int} (h : ¬ pP ∣ x) : Cong (x * x ^ (pN - 2)) 1 := by
 have e : x * x ^ (pN - 2) = x ^ (pN - 1) := by
  have : pN - 1 = pN - 2 + 1 := by decide +kernel
  rw [this, q122, Int.mul_comm]
 rw [e]
 exact p_fermat h
instance : NeZero pN := ⟨by decide⟩
abbrev Fp := Fin pN
theorem pP_pos : (0 : Int) < pP := by decide +kernel
theorem pN_cast : ((pN : Nat) : Int) = pP := rfl
def fp (x : Int) : Fp := ⟨(x % pP).toNat, by
 have h0 := Int.emod_nonneg x (show pP ≠ 0 from Int.ne_of_gt pP_pos)
 have h1 := q172 x pP_pos
 rw [← pN_cast] at h1 h0 ⊢
 omega⟩
theorem fp_val (x : Int) : (fp x).val = (x % pP).toNat := rfl
theorem fp_int (x : Int) : ((fp x).val : Int) = x % pP := by
 have h0 := Int.emod_nonneg x (show pP ≠ 0 from Int.ne_of_gt pP_pos)
 rw [fp_val, Int.toNat_of_nonneg h0]
theorem fin_int {a b : Fp} (h : (a.val : Int) = b.val) : a = b := Fin.ext (Int.ofNat_inj.1 h)
theorem fp_eq {x y : Int} : fp x = fp y ↔ Cong x y := by
 rw [cong_iff, ← fp_int, ← fp_int]
 exact ⟨fun h => by rw [h], fin_int⟩
theorem zdm (a : Fp) : fp a.val = a := by
 apply fin_int
 rw [fp_int, ← pN_cast, q171 (by omega) (by have := a.isLt; omega)]
theorem fp_add (x y : Int) : fp (x + y) = fp x + fp y := by
 apply fin_int
 rw [Fin.val_add, fp_int, Int.natCast_emod, Int.natCast_add, fp_int, fp_int, pN_cast, ← Int.add_emod]
theorem fp_mul (x y : Int) : fp (x * y) = fp x * fp y := by
 apply fin_int
 rw [Fin.val_mul, fp_int, Int.natCast_emod, Int.natCast_mul, fp_int, fp_int, pN_cast, ← Int.mul_emod]
theorem fp_zero : fp 0 = 0 := by
 apply fin_int
 rw [fp_int]
 rfl
theorem fp_one : fp 1 = 1 := by
 apply fin_int
 rw [fp_int]
 decide +kernel
theorem fp_neg (x : Int) : fp (-x) = -fp x := by
 have h : fp (-x) + fp x = 0 := by rw [← fp_add, Int.add_left_neg, fp_zero]
 grind
theorem fp_sub (x y : Int) : fp (x - y) = fp x - fp y := by
 rw [Int.sub_eq_add_neg, fp_add, fp_neg]
 grind
theorem fp_zero_iff {x : Int} : fp x = 0 ↔ pP ∣ x := by
 rw [← fp_zero, fp_eq, cong_zero]
theorem f_dom {a b : Fp} (h : a * b = 0) : a = 0 ∨ b = 0 := by
 rw [← zdm a, ← zdm b, ← fp_mul, fp_zero_iff] at h
 rcases p_domain h with h | h
 ·exact Or.inl (by rw [← zdm a]; exact fp_zero_iff.2 h)
 ·exact Or.inr (by rw [← zdm b]; exact fp_zero_iff.2 h)
theorem zci {a b : Fp} (ha : a ≠ 0) (hb : b ≠ 0) : a * b ≠ 0 := fun h => by
 rcases f_dom h with h | h
 ·exact ha h
 ·exact hb h
theorem f_cancel {a b c : Fp} (hc : c ≠ 0) (h : a * c = b * c) : a = b := by
 have : (a - b) * c = 0 := by grind
 rcases f_dom this with h | h
 ·grind
 ·exact absurd h hc
def fi (a : Fp) : Fp := fp ((a.val : Int) ^ (pN - 2))
theorem fi_fp (x : Int) : fi (fp x) = fp (x ^ (pN - 2)) := by
 unfold fi
 rw [fp_eq, fp_int]
 exact (cong_mod x).pow _
theorem f_inv {a : Fp} (h : a ≠ 0) : a * fi a = 1 := by
 unfold fi
 have h' : ¬ pP ∣ (a.val : Int) := fun hd => h (by rw [← zdm a]; exact fp_zero_iff.2 hd)
 have := fp_eq.2 (inv_undo h')
 rw [fp_mul, zdm, fp_one] at this
 exact this
theorem f_one_ne : (1 : Fp) ≠ 0 := by
 rw [← fp_one]
 exact fun h => p_one (fp_zero_iff.1 h)
theorem f_two_ne : (2 : Fp) ≠ 0 := by
 have e : (2 : Fp) = fp 2 := by
  have h : fp 2 = fp 1 + fp 1 := fp_add 1 1
  rw [h, fp_one]
  decide +kernel
 rw [e]
 exact fun h => p_two (fp_zero_iff.1 h)
def dN : Int := 37095705934669439343138083508754565189542113879843219016388785533085940283555
theorem dN_half : (pm pN 255 37095705934669439343138083508754565189542113879843219016388785533085940283555 pM) = pN - 1 := by decide +kernel
theorem dN_not : ¬ Cong (dN ^ pM) 1 := by
 intro h
 have e := pm_eq (n := pN) 255 37095705934669439343138083508754565189542113879843219016388785533085940283555 pM (by decide +kernel)
 rw [dN_half] at e
 rw [cong_iff, dN, pP_nat] at h
 have e2 : (((37095705934669439343138083508754565189542113879843219016388785533085940283555 ^ pM % pN : Nat)) : Int) = (1 : Int) % (pN : Int) := by
  rw [Int.natCast_emod, Int.natCast_pow]
  exact h
 rw [← e] at e2
 revert e2
 decide +kernel
def dF : Fp := fp dN
theorem dF_ne : dF ≠ 0 := by
 intro h
 have := fp_zero_iff.1 h
 revert this
 decide +kernel
theorem dF_nonsq (r : Fp) : r * r ≠ dF := by
 intro h
 rw [← zdm r, ← fp_mul, dF, fp_eq] at h
 refine dN_not (half_of_square (fun hd => dF_ne (fp_zero_iff.2 hd)) h)
def iF : Fp := fp sm1
theorem iF_sq : iF * iF = -1 := by
 rw [iF, ← fp_mul, ← fp_one, ← fp_neg, fp_eq]
 exact sm1_sq
def On (x y : Fp) : Prop := y * y - x * x = 1 + dF * (x * x * (y * y))
theorem d_ratio {a b : Fp} (h : a * a = dF * (b * b)) : b = 0 := by
 apply Classical.byContradiction
 intro hb
 have hf := f_inv hb
 refine dF_nonsq (a * fi b) ?_
 generalize fi b = c at *
 grind
theorem on_ne {x1 y1 x2 y2 : Fp} (h1 : On x1 y1) (h2 : On x2 y2) {s : Fp} (hs : s * s = 1) : dF * (x1 * x2 * (y1 * y2)) ≠ s := by
 intro hd
 have hi := iF_sq
 unfold On at h1 h2
 have hs0 : s ≠ 0 := fun e => f_one_ne (by rw [← hs, e]; grind)
 have k1 : dF * (x1 * x1 * (y1 * y1)) * (y2 * y2 - x2 * x2) = y1 * y1 - x1 * x1 := by
  have a1 : dF * (x1 * x1 * (y1 * y1)) * (y2 * y2 - x2 * x2) = dF * (x1 * x1 * (y1 * y1)) + (dF * (x1 * x2 * (y1 * y2))) * (dF * (x1 * x2 * (y1 * y2))) := by
   rw [h2]
   grind
  rw [a1, hd, hs]
  grind
 have k2 : (iF * x1 + s * y1) * (iF * x1 + s * y1) = dF * ((x1 * y1 * (y2 + iF * x2)) * (x1 * y1 * (y2 + iF * x2))) := by
  have a2 : dF * ((x1 * y1 * (y2 + iF * x2)) * (x1 * y1 * (y2 + iF * x2))) = dF * (x1 * x1 * (y1 * y1)) * (y2 * y2 + iF * iF * (x2 * x2)) + 2 * iF * (x1 * y1) * (dF * (x1 * x2 * (y1 * y2))) := by grind
  rw [a2, hd, hi]
  have a3 : y2 * y2 + -1 * (x2 * x2) = y2 * y2 - x2 * x2 := by grind
  rw [a3, k1]
  have a4 : (iF * x1 + s * y1) * (iF * x1 + s * y1) = iF * iF * (x1 * x1) + s * s * (y1 * y1) + 2 * iF * (x1 * y1) * s := by grind
  rw [a4, hi, hs]
  grind
 have k3 : (-iF * x1 + s * y1) * (-iF * x1 + s * y1) = dF * ((x1 * y1 * (y2 - iF * x2)) * (x1 * y1 * (y2 - iF * x2))) := by
  have a2 : dF * ((x1 * y1 * (y2 - iF * x2)) * (x1 * y1 * (y2 - iF * x2))) = dF * (x1 * x1 * (y1 * y1)) * (y2 * y2 + iF * iF * (x2 * x2)) - 2 * iF * (x1 * y1) * (dF * (x1 * x2 * (y1 * y2))) := by grind
  rw [a2, hd, hi]
  have a3 : y2 * y2 + -1 * (x2 * x2) = y2 * y2 - x2 * x2 := by grind
  rw [a3, k1]
  have a4 : (-iF * x1 + s * y1) * (-iF * x1 + s * y1) = iF * iF * (x1 * x1) + s * s * (y1 * y1) - 2 * iF * (x1 * y1) * s := by grind
  rw [a4, hi, hs]
  grind
 have z2 := d_ratio k2
 have z3 := d_ratio k3
 have hx : x1 * y1 ≠ 0 := fun e => hs0 (by
  have : dF * (x1 * x2 * (y1 * y2)) = dF * (x2 * y2) * (x1 * y1) := by grind
  rw [← hd, this, e]
  grind)
 have w2 : y2 + iF * x2 = 0 := by
  rcases f_dom z2 with e | e
  ·exact absurd e hx
  ·exact e
 have w3 : y2 - iF * x2 = 0 := by
  rcases f_dom z3 with e | e
  ·exact absurd e hx
  ·exact e
 have w4 : 2 * y2 = 0 := by grind
 have w5 : y2 = 0 := by
  rcases f_dom w4 with e | e
  ·exact absurd e f_two_ne
  ·exact e
 apply hs0
 rw [← hd, w5]
 grind
theorem on_plus {x1 y1 x2 y2 : Fp} (h1 : On x1 y1) (h2 : On x2 y2) : 1 + dF * (x1 * x2 * (y1 * y2)) ≠ 0 := fun h =>
 on_ne h1 h2 (s := -1) (by grind) (by grind)
theorem on_minus {x1 y1 x2 y2 : Fp} (h1 : On x1 y1) (h2 : On x2 y2) : 1 - dF * (x1 * x2 * (y1 * y2)) ≠ 0 := fun h =>
 on_ne h1 h2 (s := 1) (by grind) (by grind)
structure Pt where
 x : Fp
 y : Fp
 on : On x y
theorem Pt.ext' {P Q : Pt} (hx : P.x = Q.x) (hy : P.y = Q.y) : P = Q := by
 cases P; cases Q; cases hx; cases hy; rfl
theorem f_sub {a b : Fp} (h : a - b = 0) : a = b := by
 have e : a = (a - b) + b := by grind
 rw [e, h, Fin.zero_add]
theorem lin2 {L R c1 e1 c2 e2 : Fp} (h : L - R = c1 * e1 + c2 * e2) (h1 : e1 = 0) (h2 : e2 = 0) : L = R := by
 apply f_sub
 rw [h, h1, h2, Fin.mul_zero, Fin.mul_zero, Fin.zero_add]
theorem lin3 {L R c1 e1 c2 e2 c3 e3 : Fp} (h : L - R = c1 * e1 + c2 * e2 + c3 * e3) (h1 : e1 = 0) (h2 : e2 = 0) (h3 : e3 = 0) : L = R := by
 apply f_sub
 rw [h, h1, h2, h3, Fin.mul_zero, Fin.mul_zero, Fin.mul_zero, Fin.zero_add, Fin.zero_add]
theorem lin {L R A B : Fp} (c : Fp) (e : A = B) (h : L - R = c * (A - B)) : L = R := by
 apply f_sub
 have z : B - B = 0 := by grind
 rw [h, e, z, Fin.mul_zero]
theorem on_sum {x1 y1 x2 y2 x3 y3 d : Fp} (h1 : y1 * y1 - x1 * x1 = 1 + d * (x1 * x1 * (y1 * y1))) (h2 : y2 * y2 - x2 * x2 = 1 + d * (x2 * x2 * (y2 * y2)))
  (ha : 1 + d * (x1 * x2 * (y1 * y2)) ≠ 0) (hb : 1 - d * (x1 * x2 * (y1 * y2)) ≠ 0)
  (hx : x3 * (1 + d * (x1 * x2 * (y1 * y2))) = x1 * y2 + x2 * y1) (hy : y3 * (1 - d * (x1 * x2 * (y1 * y2))) = y1 * y2 + x1 * x2) : y3 * y3 - x3 * x3 = 1 + d * (x3 * x3 * (y3 * y3)) := by
 generalize hA : 1 + d * (x1 * x2 * (y1 * y2)) = A at *
 generalize hB : 1 - d * (x1 * x2 * (y1 * y2)) = B at *
 refine f_cancel (zci (zci ha ha) (zci hb hb)) ?_
 have l : (y3 * y3 - x3 * x3) * (A * A * (B * B)) = (y3 * B) * (y3 * B) * (A * A) - (x3 * A) * (x3 * A) * (B * B) := by grind
 have r : (1 + d * (x3 * x3 * (y3 * y3))) * (A * A * (B * B)) = A * A * (B * B) + d * ((x3 * A) * (x3 * A) * ((y3 * B) * (y3 * B))) := by grind
 rw [l, r, hx, hy]
 clear l r hx hy ha hb x3 y3
 subst hA hB
 have e1 : y1 * y1 - x1 * x1 - 1 - d * (x1 * x1 * (y1 * y1)) = 0 := by grind
 have e2 : y2 * y2 - x2 * x2 - 1 - d * (x2 * x2 * (y2 * y2)) = 0 := by grind
 clear h1 h2
 have key : ((y1 * y2 + x1 * x2) * (y1 * y2 + x1 * x2) * ((1 + d * (x1 * x2 * (y1 * y2))) * (1 + d * (x1 * x2 * (y1 * y2)))) - (x1 * y2 + x2 * y1) * (x1 * y2 + x2 * y1) * ((1 - d * (x1 * x2 * (y1 * y2))) * (1 - d * (x1 * x2 * (y1 * y2))))) - ((1 + d * (x1 * x2 * (y1 * y2))) * (1 + d * (x1 * x2 * (y1 * y2))) * ((1 - d * (x1 * x2 * (y1 * y2))) * (1 - d * (x1 * x2 * (y1 * y2)))) + d * ((x1 * y2 + x2 * y1) * (x1 * y2 + x2 * y1) * ((y1 * y2 + x1 * x2) * (y1 * y2 + x1 * x2))))
  = (x1^2*y1^2*x2^4*y2^4*d^3 - x1^2*x2^4*y2^4*d^2 - x1^2*x2^4*y2^2*d + x1^2*x2^2*y2^4*d + y1^2*x2^4*y2^4*d^2 + y1^2*x2^4*y2^2*d - y1^2*x2^2*y2^4*d - x2^4*y2^4*d^2 - 2*x2^4*y2^4*d - 2*x2^4*y2^2 + x2^4 + 2*x2^2*y2^4 - 2*x2^2*y2^2*d - 4*x2^2*y2^2 + y2^4) * (y1 * y1 - x1 * x1 - 1 - d * (x1 * x1 * (y1 * y1))) + (x1^4*x2^2*y2^2*d + 2*x1^2*x2^2*y2^2*d + 2*x1^2*x2^2*y2^2 - x1^2*x2^2 + x1^2*y2^2 + y1^4*x2^2*y2^2*d - 2*y1^2*x2^2*y2^2*d - 2*y1^2*x2^2*y2^2 + y1^2*x2^2 - y1^2*y2^2 + x2^2*y2^2*d + 2*x2^2*y2^2 - x2^2 + y2^2 + 1) * (y2 * y2 - x2 * x2 - 1 - d * (x2 * x2 * (y2 * y2))) := by grind
 exact lin2 key e1 e2
def padd (P Q : Pt) : Pt where
 x := (P.x * Q.y + Q.x * P.y) * fi (1 + dF * (P.x * Q.x * (P.y * Q.y)))
 y := (P.y * Q.y + P.x * Q.x) * fi (1 - dF * (P.x * Q.x * (P.y * Q.y)))
 on := by
  have ha := on_plus P.on Q.on
  have hb := on_minus P.on Q.on
  refine on_sum P.on Q.on ha hb ?_ ?_
  ·have := f_inv ha
   generalize fi (1 + dF * (P.x * Q.x * (P.y * Q.y))) = c at *
   generalize 1 + dF * (P.x * Q.x * (P.y * Q.y)) = a at *
   grind
  ·have := f_inv hb
   generalize fi (1 - dF * (P.x * Q.x * (P.y * Q.y))) = c at *
   generalize 1 - dF * (P.x * Q.x * (P.y * Q.y)) = a at *
   grind
theorem padd_x (P Q : Pt) : (padd P Q).x * (1 + dF * (P.x * Q.x * (P.y * Q.y))) = P.x * Q.y + Q.x * P.y := by
 have := f_inv (on_plus P.on Q.on)
 show (P.x * Q.y + Q.x * P.y) * fi _ * _ = _
 generalize fi (1 + dF * (P.x * Q.x * (P.y * Q.y))) = c at *
 generalize 1 + dF * (P.x * Q.x * (P.y * Q.y)) = a at *
 grind
theorem padd_y (P Q : Pt) : (padd P Q).y * (1 - dF * (P.x * Q.x * (P.y * Q.y))) = P.y * Q.y + P.x * Q.x := by
 have := f_inv (on_minus P.on Q.on)
 show (P.y * Q.y + P.x * Q.x) * fi _ * _ = _
 generalize fi (1 - dF * (P.x * Q.x * (P.y * Q.y))) = c at *
 generalize 1 - dF * (P.x * Q.x * (P.y * Q.y)) = a at *
 grind
theorem padd_of {P Q R : Pt} (hx : R.x * (1 + dF * (P.x * Q.x * (P.y * Q.y))) = P.x * Q.y + Q.x * P.y) (hy : R.y * (1 - dF * (P.x * Q.x * (P.y * Q.y))) = P.y * Q.y + P.x * Q.x) : R = padd P Q :=
 Pt.ext' (f_cancel (on_plus P.on Q.on) (hx.trans (padd_x P Q).symm)) (f_cancel (on_minus P.on Q.on) (hy.trans (padd_y P Q).symm))
theorem padd_comm (P Q : Pt) : padd P Q = padd Q P := by
 refine padd_of ?_ ?_
 ·have := padd_x P Q
  have e : 1 + dF * (Q.x * P.x * (Q.y * P.y)) = 1 + dF * (P.x * Q.x * (P.y * Q.y)) := by grind
  rw [e, this]
  grind
 ·have := padd_y P Q
  have e : 1 - dF * (Q.x * P.x * (Q.y * P.y)) = 1 - dF * (P.x * Q.x * (P.y * Q.y)) := by grind
  rw [e, this]
  grind
def pzero : Pt := ⟨0, 1, by unfold On; grind⟩
def pneg (P : Pt) : Pt := ⟨-P.x, P.y, by have := P.on; unfold On at *; grind⟩
theorem zfh (P : Pt) : padd P pzero = P := by
 refine (padd_of ?_ ?_).symm
 ·show P.x * (1 + dF * (P.x * 0 * (P.y * 1))) = P.x * 1 + 0 * P.y
  grind
 ·show P.y * (1 - dF * (P.x * 0 * (P.y * 1))) = P.y * 1 + P.x * 0
  grind
theorem zero_padd (P : Pt) : padd pzero P = P := by rw [padd_comm, zfh]
theorem padd_neg (P : Pt) : padd P (pneg P) = pzero := by
 have h := P.on
 unfold On at h
 refine (padd_of ?_ ?_).symm
 ·show 0 * (1 + dF * (P.x * -P.x * (P.y * P.y))) = P.x * P.y + -P.x * P.y
  grind
 ·show 1 * (1 - dF * (P.x * -P.x * (P.y * P.y))) = P.y * P.y + P.x * -P.x
  grind
set_option maxHeartbeats 2000000 in
theorem assoc_x {x1 y1 x2 y2 x3 y3 d : Fp} (e1 : y1 * y1 - x1 * x1 - 1 - d * (x1 * x1 * (y1 * y1)) = 0) (e2 : y2 * y2 - x2 * x2 - 1 - d * (x2 * x2 * (y2 * y2)) = 0) (e3 : y3 * y3 - x3 * x3 - 1 - d * (x3 * x3 * (y3 * y3)) = 0) :
  ((x1 * y2 + x2 * y1) * (1 - d * (x1 * x2 * (y1 * y2))) * y3 + x3 * ((y1 * y2 + x1 * x2) * (1 + d * (x1 * x2 * (y1 * y2))))) * ((1 + d * (x2 * x3 * (y2 * y3))) * (1 - d * (x2 * x3 * (y2 * y3))) + d * (x1 * y1 * ((x2 * y3 + x3 * y2) * (y2 * y3 + x2 * x3))))
  = (x1 * ((y2 * y3 + x2 * x3) * (1 + d * (x2 * x3 * (y2 * y3)))) + (x2 * y3 + x3 * y2) * (1 - d * (x2 * x3 * (y2 * y3))) * y1) * ((1 + d * (x1 * x2 * (y1 * y2))) * (1 - d * (x1 * x2 * (y1 * y2))) + d * ((x1 * y2 + x2 * y1) * (y1 * y2 + x1 * x2) * (x3 * y3))) := by
 refine lin3 (c1 := (-(x1 * x2 * x2 * x2 * x2 * y2 * y2 * y2 * x3 * x3 * y3 * d * d) - x1 * x2 * x2 * x2 * x2 * y2 * x3 * x3 * y3 * d - x1 * x2 * x2 * x2 * y2 * y2 * y2 * y2 * x3 * y3 * y3 * d * d - x1 * x2 * x2 * x2 * y2 * y2 * x3 * x3 * x3 * d - x1 * x2 * x2 * x2 * y2 * y2 * x3 * d + x1 * x2 * x2 * y2 * y2 * y2 * y3 * y3 * y3 * d - x1 * x2 * x2 * y2 * y2 * y2 * y3 * d + x1 * x2 * y2 * y2 * y2 * y2 * x3 * y3 * y3 * d + y1 * x2 * x2 * x2 * x2 * y2 * y2 * y2 * x3 * y3 * y3 * d * d + y1 * x2 * x2 * x2 * x2 * y2 * x3 * y3 * y3 * d + y1 * x2 * x2 * x2 * y2 * y2 * y2 * y2 * x3 * x3 * y3 * d * d + y1 * x2 * x2 * x2 * y2 * y2 * y3 * y3 * y3 * d - y1 * x2 * x2 * x2 * y2 * y2 * y3 * d - y1 * x2 * x2 * y2 * y2 * y2 * x3 * x3 * x3 * d - y1 * x2 * x2 * y2 * y2 * y2 * x3 * d - y1 * x2 * y2 * y2 * y2 * y2 * x3 * x3 * y3 * d)) (c2 := (x1 * x1 * x1 * x2 * x2 * y2 * x3 * x3 * y3 * d + x1 * x1 * x1 * x2 * y2 * y2 * x3 * y3 * y3 * d + x1 * x1 * x1 * x2 * x3 * x3 * x3 * y3 * y3 * d + x1 * x1 * x1 * x2 * x3 * x3 * x3 - x1 * x1 * x1 * x2 * x3 * y3 * y3 + x1 * x1 * x1 * x2 * x3 + x1 * x1 * x1 * y2 * x3 * x3 * y3 * y3 * y3 * d + x1 * x1 * x1 * y2 * x3 * x3 * y3 - x1 * x1 * x1 * y2 * y3 * y3 * y3 + x1 * x1 * x1 * y2 * y3 + x1 * x1 * y1 * x2 * x2 * y2 * x3 * x3 * x3 * y3 * y3 * d * d - x1 * x1 * y1 * x2 * x2 * y2 * x3 * y3 * y3 * d - x1 * x1 * y1 * x2 * y2 * y2 * x3 * x3 * y3 * y3 * y3 * d * d - x1 * x1 * y1 * x2 * y2 * y2 * x3 * x3 * y3 * d + x1 * x1 * y1 * x2 * x3 * x3 * y3 * y3 * y3 * d + x1 * x1 * y1 * x2 * x3 * x3 * y3 - x1 * x1 * y1 * x2 * y3 * y3 * y3 + x1 * x1 * y1 * x2 * y3 + x1 * x1 * y1 * y2 * x3 * x3 * x3 * y3 * y3 * d + x1 * x1 * y1 * y2 * x3 * x3 * x3 - x1 * x1 * y1 * y2 * x3 * y3 * y3 + x1 * x1 * y1 * y2 * x3 - x1 * y1 * y1 * x2 * x2 * y2 * x3 * x3 * y3 * y3 * y3 * d * d - x1 * y1 * y1 * x2 * x2 * y2 * x3 * x3 * y3 * d + x1 * y1 * y1 * x2 * y2 * y2 * x3 * x3 * x3 * y3 * y3 * d * d - x1 * y1 * y1 * x2 * y2 * y2 * x3 * y3 * y3 * d - x1 * y1 * y1 * x2 * x3 * x3 * x3 * y3 * y3 * d - x1 * y1 * y1 * x2 * x3 * x3 * x3 + x1 * y1 * y1 * x2 * x3 * y3 * y3 - x1 * y1 * y1 * x2 * x3 - x1 * y1 * y1 * y2 * x3 * x3 * y3 * y3 * y3 * d - x1 * y1 * y1 * y2 * x3 * x3 * y3 + x1 * y1 * y1 * y2 * y3 * y3 * y3 - x1 * y1 * y1 * y2 * y3 + x1 * x2 * x2 * y2 * x3 * x3 * y3 * d + x1 * x2 * y2 * y2 * x3 * y3 * y3 * d + x1 * x2 * x3 * x3 * x3 * y3 * y3 * d + x1 * x2 * x3 * x3 * x3 - x1 * x2 * x3 * y3 * y3 + x1 * x2 * x3 + x1 * y2 * x3 * x3 * y3 * y3 * y3 * d + x1 * y2 * x3 * x3 * y3 - x1 * y2 * y3 * y3 * y3 + x1 * y2 * y3 + y1 * y1 * y1 * x2 * x2 * y2 * x3 * y3 * y3 * d + y1 * y1 * y1 * x2 * y2 * y2 * x3 * x3 * y3 * d - y1 * y1 * y1 * x2 * x3 * x3 * y3 * y3 * y3 * d - y1 * y1 * y1 * x2 * x3 * x3 * y3 + y1 * y1 * y1 * x2 * y3 * y3 * y3 - y1 * y1 * y1 * x2 * y3 - y1 * y1 * y1 * y2 * x3 * x3 * x3 * y3 * y3 * d - y1 * y1 * y1 * y2 * x3 * x3 * x3 + y1 * y1 * y1 * y2 * x3 * y3 * y3 - y1 * y1 * y1 * y2 * x3 - y1 * x2 * x2 * y2 * x3 * y3 * y3 * d - y1 * x2 * y2 * y2 * x3 * x3 * y3 * d + y1 * x2 * x3 * x3 * y3 * y3 * y3 * d + y1 * x2 * x3 * x3 * y3 - y1 * x2 * y3 * y3 * y3 + y1 * x2 * y3 + y1 * y2 * x3 * x3 * x3 * y3 * y3 * d + y1 * y2 * x3 * x3 * x3 - y1 * y2 * x3 * y3 * y3 + y1 * y2 * x3)) (c3 := (-(x1 * x1 * x1 * x2 * x2 * x2 * x3) - x1 * x1 * x1 * x2 * x2 * y2 * y3 + x1 * x1 * x1 * x2 * y2 * y2 * x3 - x1 * x1 * x1 * x2 * x3 + x1 * x1 * x1 * y2 * y2 * y2 * y3 - x1 * x1 * x1 * y2 * y3 - x1 * x1 * y1 * x2 * x2 * x2 * y3 - x1 * x1 * y1 * x2 * x2 * y2 * x3 * d - x1 * x1 * y1 * x2 * x2 * y2 * x3 + x1 * x1 * y1 * x2 * y2 * y2 * y3 * d + x1 * x1 * y1 * x2 * y2 * y2 * y3 - x1 * x1 * y1 * x2 * y3 + x1 * x1 * y1 * y2 * y2 * y2 * x3 - x1 * x1 * y1 * y2 * x3 + x1 * y1 * y1 * x2 * x2 * x2 * x3 + x1 * y1 * y1 * x2 * x2 * y2 * y3 * d + x1 * y1 * y1 * x2 * x2 * y2 * y3 - x1 * y1 * y1 * x2 * y2 * y2 * x3 * d - x1 * y1 * y1 * x2 * y2 * y2 * x3 + x1 * y1 * y1 * x2 * x3 - x1 * y1 * y1 * y2 * y2 * y2 * y3 + x1 * y1 * y1 * y2 * y3 - x1 * x2 * x2 * x2 * x3 - x1 * x2 * x2 * y2 * y3 + x1 * x2 * y2 * y2 * x3 - x1 * x2 * x3 + x1 * y2 * y2 * y2 * y3 - x1 * y2 * y3 + y1 * y1 * y1 * x2 * x2 * x2 * y3 + y1 * y1 * y1 * x2 * x2 * y2 * x3 - y1 * y1 * y1 * x2 * y2 * y2 * y3 + y1 * y1 * y1 * x2 * y3 - y1 * y1 * y1 * y2 * y2 * y2 * x3 + y1 * y1 * y1 * y2 * x3 - y1 * x2 * x2 * x2 * y3 - y1 * x2 * x2 * y2 * x3 + y1 * x2 * y2 * y2 * y3 - y1 * x2 * y3 + y1 * y2 * y2 * y2 * x3 - y1 * y2 * x3)) ?_ e1 e2 e3
 clear e1 e2 e3
 grind
set_option maxHeartbeats 2000000 in
theorem assoc_y {x1 y1 x2 y2 x3 y3 d : Fp} (e1 : y1 * y1 - x1 * x1 - 1 - d * (x1 * x1 * (y1 * y1)) = 0) (e2 : y2 * y2 - x2 * x2 - 1 - d * (x2 * x2 * (y2 * y2)) = 0) (e3 : y3 * y3 - x3 * x3 - 1 - d * (x3 * x3 * (y3 * y3)) = 0) :
  ((y1 * y2 + x1 * x2) * (1 + d * (x1 * x2 * (y1 * y2))) * y3 + (x1 * y2 + x2 * y1) * (1 - d * (x1 * x2 * (y1 * y2))) * x3) * ((1 + d * (x2 * x3 * (y2 * y3))) * (1 - d * (x2 * x3 * (y2 * y3))) - d * (x1 * y1 * ((x2 * y3 + x3 * y2) * (y2 * y3 + x2 * x3))))
  = (y1 * ((y2 * y3 + x2 * x3) * (1 + d * (x2 * x3 * (y2 * y3)))) + x1 * ((x2 * y3 + x3 * y2) * (1 - d * (x2 * x3 * (y2 * y3))))) * ((1 + d * (x1 * x2 * (y1 * y2))) * (1 - d * (x1 * x2 * (y1 * y2))) - d * ((x1 * y2 + x2 * y1) * (y1 * y2 + x1 * x2) * (x3 * y3))) := by
 refine lin3 (c1 := (x1 * x2 * x2 * x2 * x2 * y2 * y2 * y2 * x3 * y3 * y3 * d * d + x1 * x2 * x2 * x2 * x2 * y2 * x3 * y3 * y3 * d + x1 * x2 * x2 * x2 * y2 * y2 * y2 * y2 * x3 * x3 * y3 * d * d + x1 * x2 * x2 * x2 * y2 * y2 * y3 * y3 * y3 * d - x1 * x2 * x2 * x2 * y2 * y2 * y3 * d - x1 * x2 * x2 * y2 * y2 * y2 * x3 * x3 * x3 * d - x1 * x2 * x2 * y2 * y2 * y2 * x3 * d - x1 * x2 * y2 * y2 * y2 * y2 * x3 * x3 * y3 * d - y1 * x2 * x2 * x2 * x2 * y2 * y2 * y2 * x3 * x3 * y3 * d * d - y1 * x2 * x2 * x2 * x2 * y2 * x3 * x3 * y3 * d - y1 * x2 * x2 * x2 * y2 * y2 * y2 * y2 * x3 * y3 * y3 * d * d - y1 * x2 * x2 * x2 * y2 * y2 * x3 * x3 * x3 * d - y1 * x2 * x2 * x2 * y2 * y2 * x3 * d + y1 * x2 * x2 * y2 * y2 * y2 * y3 * y3 * y3 * d - y1 * x2 * x2 * y2 * y2 * y2 * y3 * d + y1 * x2 * y2 * y2 * y2 * y2 * x3 * y3 * y3 * d)) (c2 := (-(x1 * x1 * x1 * x2 * x2 * y2 * x3 * y3 * y3 * d) - x1 * x1 * x1 * x2 * y2 * y2 * x3 * x3 * y3 * d + x1 * x1 * x1 * x2 * x3 * x3 * y3 * y3 * y3 * d + x1 * x1 * x1 * x2 * x3 * x3 * y3 - x1 * x1 * x1 * x2 * y3 * y3 * y3 + x1 * x1 * x1 * x2 * y3 + x1 * x1 * x1 * y2 * x3 * x3 * x3 * y3 * y3 * d + x1 * x1 * x1 * y2 * x3 * x3 * x3 - x1 * x1 * x1 * y2 * x3 * y3 * y3 + x1 * x1 * x1 * y2 * x3 + x1 * x1 * y1 * x2 * x2 * y2 * x3 * x3 * y3 * y3 * y3 * d * d + x1 * x1 * y1 * x2 * x2 * y2 * x3 * x3 * y3 * d - x1 * x1 * y1 * x2 * y2 * y2 * x3 * x3 * x3 * y3 * y3 * d * d + x1 * x1 * y1 * x2 * y2 * y2 * x3 * y3 * y3 * d + x1 * x1 * y1 * x2 * x3 * x3 * x3 * y3 * y3 * d + x1 * x1 * y1 * x2 * x3 * x3 * x3 - x1 * x1 * y1 * x2 * x3 * y3 * y3 + x1 * x1 * y1 * x2 * x3 + x1 * x1 * y1 * y2 * x3 * x3 * y3 * y3 * y3 * d + x1 * x1 * y1 * y2 * x3 * x3 * y3 - x1 * x1 * y1 * y2 * y3 * y3 * y3 + x1 * x1 * y1 * y2 * y3 - x1 * y1 * y1 * x2 * x2 * y2 * x3 * x3 * x3 * y3 * y3 * d * d + x1 * y1 * y1 * x2 * x2 * y2 * x3 * y3 * y3 * d + x1 * y1 * y1 * x2 * y2 * y2 * x3 * x3 * y3 * y3 * y3 * d * d + x1 * y1 * y1 * x2 * y2 * y2 * x3 * x3 * y3 * d - x1 * y1 * y1 * x2 * x3 * x3 * y3 * y3 * y3 * d - x1 * y1 * y1 * x2 * x3 * x3 * y3 + x1 * y1 * y1 * x2 * y3 * y3 * y3 - x1 * y1 * y1 * x2 * y3 - x1 * y1 * y1 * y2 * x3 * x3 * x3 * y3 * y3 * d - x1 * y1 * y1 * y2 * x3 * x3 * x3 + x1 * y1 * y1 * y2 * x3 * y3 * y3 - x1 * y1 * y1 * y2 * x3 - x1 * x2 * x2 * y2 * x3 * y3 * y3 * d - x1 * x2 * y2 * y2 * x3 * x3 * y3 * d + x1 * x2 * x3 * x3 * y3 * y3 * y3 * d + x1 * x2 * x3 * x3 * y3 - x1 * x2 * y3 * y3 * y3 + x1 * x2 * y3 + x1 * y2 * x3 * x3 * x3 * y3 * y3 * d + x1 * y2 * x3 * x3 * x3 - x1 * y2 * x3 * y3 * y3 + x1 * y2 * x3 - y1 * y1 * y1 * x2 * x2 * y2 * x3 * x3 * y3 * d - y1 * y1 * y1 * x2 * y2 * y2 * x3 * y3 * y3 * d - y1 * y1 * y1 * x2 * x3 * x3 * x3 * y3 * y3 * d - y1 * y1 * y1 * x2 * x3 * x3 * x3 + y1 * y1 * y1 * x2 * x3 * y3 * y3 - y1 * y1 * y1 * x2 * x3 - y1 * y1 * y1 * y2 * x3 * x3 * y3 * y3 * y3 * d - y1 * y1 * y1 * y2 * x3 * x3 * y3 + y1 * y1 * y1 * y2 * y3 * y3 * y3 - y1 * y1 * y1 * y2 * y3 + y1 * x2 * x2 * y2 * x3 * x3 * y3 * d + y1 * x2 * y2 * y2 * x3 * y3 * y3 * d + y1 * x2 * x3 * x3 * x3 * y3 * y3 * d + y1 * x2 * x3 * x3 * x3 - y1 * x2 * x3 * y3 * y3 + y1 * x2 * x3 + y1 * y2 * x3 * x3 * y3 * y3 * y3 * d + y1 * y2 * x3 * x3 * y3 - y1 * y2 * y3 * y3 * y3 + y1 * y2 * y3)) (c3 := (-(x1 * x1 * x1 * x2 * x2 * x2 * y3) - x1 * x1 * x1 * x2 * x2 * y2 * x3 + x1 * x1 * x1 * x2 * y2 * y2 * y3 - x1 * x1 * x1 * x2 * y3 + x1 * x1 * x1 * y2 * y2 * y2 * x3 - x1 * x1 * x1 * y2 * x3 - x1 * x1 * y1 * x2 * x2 * x2 * x3 - x1 * x1 * y1 * x2 * x2 * y2 * y3 * d - x1 * x1 * y1 * x2 * x2 * y2 * y3 + x1 * x1 * y1 * x2 * y2 * y2 * x3 * d + x1 * x1 * y1 * x2 * y2 * y2 * x3 - x1 * x1 * y1 * x2 * x3 + x1 * x1 * y1 * y2 * y2 * y2 * y3 - x1 * x1 * y1 * y2 * y3 + x1 * y1 * y1 * x2 * x2 * x2 * y3 + x1 * y1 * y1 * x2 * x2 * y2 * x3 * d + x1 * y1 * y1 * x2 * x2 * y2 * x3 - x1 * y1 * y1 * x2 * y2 * y2 * y3 * d - x1 * y1 * y1 * x2 * y2 * y2 * y3 + x1 * y1 * y1 * x2 * y3 - x1 * y1 * y1 * y2 * y2 * y2 * x3 + x1 * y1 * y1 * y2 * x3 - x1 * x2 * x2 * x2 * y3 - x1 * x2 * x2 * y2 * x3 + x1 * x2 * y2 * y2 * y3 - x1 * x2 * y3 + x1 * y2 * y2 * y2 * x3 - x1 * y2 * x3 + y1 * y1 * y1 * x2 * x2 * x2 * x3 + y1 * y1 * y1 * x2 * x2 * y2 * y3 - y1 * y1 * y1 * x2 * y2 * y2 * x3 + y1 * y1 * y1 * x2 * x3 - y1 * y1 * y1 * y2 * y2 * y2 * y3 + y1 * y1 * y1 * y2 * y3 - y1 * x2 * x2 * x2 * x3 - y1 * x2 * x2 * y2 * y3 + y1 * x2 * y2 * y2 * x3 - y1 * x2 * x3 + y1 * y2 * y2 * y2 * y3 - y1 * y2 * y3)) ?_ e1 e2 e3
 clear e1 e2 e3
 grind
theorem On.zero {x y : Fp} (h : On x y) : y * y - x * x - 1 - dF * (x * x * (y * y)) = 0 := by
 unfold On at h
 rw [h]
 grind
theorem lift_x {d A B n m x' y' u v x : Fp} (hx : x' * A = n) (hy : y' * B = m) (h : x * (1 + d * (x' * u * (y' * v))) = x' * v + u * y') : x * (A * B + d * (n * m * (u * v))) = n * B * v + u * (m * A) := by
 subst hx hy
 have e : x * (A * B + d * (x' * A * (y' * B) * (u * v))) = x * (1 + d * (x' * u * (y' * v))) * (A * B) := by grind
 rw [e, h]
 grind
theorem lift_y {d A B n m x' y' u v y : Fp} (hx : x' * A = n) (hy : y' * B = m) (h : y * (1 - d * (x' * u * (y' * v))) = y' * v + x' * u) : y * (A * B - d * (n * m * (u * v))) = m * A * v + n * B * u := by
 subst hx hy
 have e : y * (A * B - d * (x' * A * (y' * B) * (u * v))) = y * (1 - d * (x' * u * (y' * v))) * (A * B) := by grind
 rw [e, h]
 grind
theorem lift_ne {d A B n m x' y' u v : Fp} (hx : x' * A = n) (hy : y' * B = m) (hA : A ≠ 0) (hB : B ≠ 0) (h : 1 + d * (x' * u * (y' * v)) ≠ 0) : A * B + d * (n * m * (u * v)) ≠ 0 := by
 subst hx hy
 have e : A * B + d * (x' * A * (y' * B) * (u * v)) = (1 + d * (x' * u * (y' * v))) * (A * B) := by grind
 rw [e]
 exact zci h (zci hA hB)
theorem lift_ne' {d A B n m x' y' u v : Fp} (hx : x' * A = n) (hy : y' * B = m) (hA : A ≠ 0) (hB : B ≠ 0) (h : 1 - d * (x' * u * (y' * v)) ≠ 0) : A * B - d * (n * m * (u * v)) ≠ 0 := by
 subst hx hy
 have e : A * B - d * (x' * A * (y' * B) * (u * v)) = (1 - d * (x' * u * (y' * v))) * (A * B) := by grind
 rw [e]
 exact zci h (zci hA hB)
theorem frac_eq {x z D E N M : Fp} (hD : D ≠ 0) (hE : E ≠ 0) (hx : x * D = N) (hz : z * E = M) (h : N * E = M * D) : x = z := by
 apply f_cancel (zci hD hE)
 subst hx hz
 grind
theorem assoc_core {x1 y1 x2 y2 x3 y3 d a b c e xl yl xr yr : Fp}
  (e1 : y1 * y1 - x1 * x1 - 1 - d * (x1 * x1 * (y1 * y1)) = 0) (e2 : y2 * y2 - x2 * x2 - 1 - d * (x2 * x2 * (y2 * y2)) = 0) (e3 : y3 * y3 - x3 * x3 - 1 - d * (x3 * x3 * (y3 * y3)) = 0)
  (ha : a * (1 + d * (x1 * x2 * (y1 * y2))) = x1 * y2 + x2 * y1) (hb : b * (1 - d * (x1 * x2 * (y1 * y2))) = y1 * y2 + x1 * x2)
  (hc : c * (1 + d * (x2 * x3 * (y2 * y3))) = x2 * y3 + x3 * y2) (he : e * (1 - d * (x2 * x3 * (y2 * y3))) = y2 * y3 + x2 * x3)
  (n1 : 1 + d * (x1 * x2 * (y1 * y2)) ≠ 0) (n2 : 1 - d * (x1 * x2 * (y1 * y2)) ≠ 0) (n3 : 1 + d * (x2 * x3 * (y2 * y3)) ≠ 0) (n4 : 1 - d * (x2 * x3 * (y2 * y3)) ≠ 0)
  (n5 : 1 + d * (a * x3 * (b * y3)) ≠ 0) (n6 : 1 - d * (a * x3 * (b * y3)) ≠ 0) (n7 : 1 + d * (c * x1 * (e * y1)) ≠ 0) (n8 : 1 - d * (c * x1 * (e * y1)) ≠ 0)
  (hxl : xl * (1 + d * (a * x3 * (b * y3))) = a * y3 + x3 * b) (hyl : yl * (1 - d * (a * x3 * (b * y3))) = b * y3 + a * x3)
  (hxr : xr * (1 + d * (c * x1 * (e * y1))) = c * y1 + x1 * e) (hyr : yr * (1 - d * (c * x1 * (e * y1))) = e * y1 + c * x1) : xl = xr ∧ yl = yr := by
 have lx := lift_x ha hb hxl
 have ly := lift_y ha hb hyl
 have rx := lift_x hc he hxr
 have ry := lift_y hc he hyr
 have nl := lift_ne ha hb n1 n2 n5
 have nl' := lift_ne' ha hb n1 n2 n6
 have nr := lift_ne hc he n3 n4 n7
 have nr' := lift_ne' hc he n3 n4 n8
 have ax := assoc_x e1 e2 e3
 have ay := assoc_y e1 e2 e3
 clear ha hb hc he hxl hyl hxr hyr n1 n2 n3 n4 n5 n6 n7 n8 e1 e2 e3
 refine ⟨?_, ?_⟩
 ·refine frac_eq nl nr lx rx ?_
  clear nl nl' nr nr' lx rx ly ry ay
  have t1 : (1 + d * (x2 * x3 * (y2 * y3))) * (1 - d * (x2 * x3 * (y2 * y3))) + d * ((x2 * y3 + x3 * y2) * (y2 * y3 + x2 * x3) * (x1 * y1)) = (1 + d * (x2 * x3 * (y2 * y3))) * (1 - d * (x2 * x3 * (y2 * y3))) + d * (x1 * y1 * ((x2 * y3 + x3 * y2) * (y2 * y3 + x2 * x3))) := by
   rw [Fin.mul_comm _ (x1 * y1)]
  have t2 : (x2 * y3 + x3 * y2) * (1 - d * (x2 * x3 * (y2 * y3))) * y1 + x1 * ((y2 * y3 + x2 * x3) * (1 + d * (x2 * x3 * (y2 * y3)))) = x1 * ((y2 * y3 + x2 * x3) * (1 + d * (x2 * x3 * (y2 * y3)))) + (x2 * y3 + x3 * y2) * (1 - d * (x2 * x3 * (y2 * y3))) * y1 := by grind
  rw [t1, t2]
  exact ax
 ·refine frac_eq nl' nr' ly ry ?_
  clear nl nl' nr nr' lx rx ly ry ax
  have t1 : (1 + d * (x2 * x3 * (y2 * y3))) * (1 - d * (x2 * x3 * (y2 * y3))) - d * ((x2 * y3 + x3 * y2) * (y2 * y3 + x2 * x3) * (x1 * y1)) = (1 + d * (x2 * x3 * (y2 * y3))) * (1 - d * (x2 * x3 * (y2 * y3))) - d * (x1 * y1 * ((x2 * y3 + x3 * y2) * (y2 * y3 + x2 * x3))) := by
   rw [Fin.mul_comm _ (x1 * y1)]
  have t2 : (y2 * y3 + x2 * x3) * (1 + d * (x2 * x3 * (y2 * y3))) * y1 + (x2 * y3 + x3 * y2) * (1 - d * (x2 * x3 * (y2 * y3))) * x1 = y1 * ((y2 * y3 + x2 * x3) * (1 + d * (x2 * x3 * (y2 * y3)))) + x1 * ((x2 * y3 + x3 * y2) * (1 - d * (x2 * x3 * (y2 * y3)))) := by
   rw [Fin.mul_comm _ y1, Fin.mul_comm _ x1]
  rw [t1, t2]
  exact ay
theorem padd_assoc' (P Q R : Pt) : (padd (padd P Q) R).x = (padd (padd Q R) P).x ∧ (padd (padd P Q) R).y = (padd (padd Q R) P).y :=
 assoc_core P.on.zero Q.on.zero R.on.zero (padd_x P Q) (padd_y P Q) (padd_x Q R) (padd_y Q R) (on_plus P.on Q.on) (on_minus P.on Q.on) (on_plus Q.on R.on) (on_minus Q.on R.on)
  (on_plus (padd P Q).on R.on) (on_minus (padd P Q).on R.on) (on_plus (padd Q R).on P.on) (on_minus (padd Q R).on P.on)
  (padd_x (padd P Q) R) (padd_y (padd P Q) R) (padd_x (padd Q R) P) (padd_y (padd Q R) P)
theorem zcr (P Q R : Pt) : padd (padd P Q) R = padd P (padd Q R) :=
 Eq.trans (b := padd (padd Q R) P) (Pt.ext' (padd_assoc' P Q R).1 (padd_assoc' P Q R).2) (padd_comm (padd Q R) P)
def pmul : Nat → Pt → Pt
 | 0, _ => pzero
 | n + 1, P => padd (pmul n P) P
theorem pmul_zero (P : Pt) : pmul 0 P = pzero := rfl
theorem zee (n : Nat) (P : Pt) : pmul (n + 1) P = padd (pmul n P) P := rfl
theorem pmul_add (m : Nat) (P : Pt) : ∀ n, pmul (m + n) P = padd (pmul m P) (pmul n P)
 | 0 => by rw [Nat.add_zero, pmul_zero, zfh]
 | n + 1 => by
  rw [← Nat.add_assoc, zee, zee, pmul_add m P n, zcr]
theorem pmul_two (n : Nat) (P : Pt) : pmul (2 * n) P = padd (pmul n P) (pmul n P) := by
 rw [Nat.two_mul, pmul_add]
theorem pmul_mul (m : Nat) (P : Pt) : ∀ n, pmul (n * m) P = pmul n (pmul m P)
 | 0 => by rw [Nat.zero_mul]; rfl
 | n + 1 => by
  rw [Nat.add_mul, Nat.one_mul, pmul_add, pmul_mul m P n, zee]
theorem pmul_pzero : ∀ n, pmul n pzero = pzero
 | 0 => rfl
 | n + 1 => by rw [zee, pmul_pzero n, zfh]
theorem padd_left_comm (P Q R : Pt) : padd P (padd Q R) = padd Q (padd P R) := by
 rw [← zcr, padd_comm P Q, zcr]
theorem padd_cancel {P Q R : Pt} (h : padd P R = padd Q R) : P = Q := by
 have := congrArg (fun T => padd T (pneg R)) h
 simp only [zcr, padd_neg, zfh] at this
 exact this
theorem pneg_of {P Q : Pt} (h : padd P Q = pzero) : Q = pneg P := by
 apply padd_cancel (R := P)
 rw [padd_comm Q P, h, padd_comm (pneg P), padd_neg]
theorem pmul_mod {q : Nat} {P : Pt} (h : pmul q P = pzero) (n : Nat) : pmul (n % q) P = pmul n P := by
 have e : n = n / q * q + n % q := (Nat.div_add_mod' n q).symm
 conv => rhs; rw [e, pmul_add, pmul_mul, h, pmul_pzero, zero_padd]
theorem f_self (a : Fp) : a - a = 0 := by grind
theorem lz (X c : Fp) {Z : Fp} (h : Z = 0) : ((X + Z) * (X + Z) - (X - Z) * (X - Z)) * ((X + Z) * (X + Z) + c * ((X + Z) * (X + Z) - (X - Z) * (X - Z))) = 0 := by
 subst h
 have e : X - 0 = X + 0 := by grind
 rw [e, f_self, Fin.zero_mul]
def bX : Int := 15112221349535400772501151409588531511454012693041857206046113283949847762202
def bY : Int := 46316835694926478169428394003475163141307993866256225615783033603165251855960
theorem b_on : On (fp bX) (fp bY) := by
 unfold On dF
 rw [← fp_mul, ← fp_mul, ← fp_sub, ← fp_mul, ← fp_mul, ← fp_one, ← fp_add, fp_eq]
 have : pP ∣ bY * bY - bX * bX - (1 + dN * (bX * bX * (bY * bY))) := by decide +kernel
 exact this
def bP : Pt := ⟨fp bX, fp bY, b_on⟩
def nbF (f : Fp) : List UInt8 := bytesN 32 f.val
theorem zae (f : Fp) : (nbF f).length = 32 := zav _ _
def clampB (l : List UInt8) : List UInt8 := (l.set 0 (l.getD 0 0 &&& 248)).set 31 (((l.set 0 (l.getD 0 0 &&& 248)).getD 31 0 &&& 127) ||| 64)
def maskB (l : List UInt8) : List UInt8 := l.set 31 (l.getD 31 0 &&& 127)
theorem zdb {l : List UInt8} (h : l.length = 32) : (clampB l).length = 32 := by simp [clampB, h]
theorem maskB_length {l : List UInt8} (h : l.length = 32) : (maskB l).length = 32 := by simp [maskB, h]
def ElF (v : Value) (f : Fp) : Prop := ∃ x : Int, IsEl v x ∧ fp x = f
theorem ElF.form {v : Value} {f : Fp} (h : ElF v f) : ∃ zs : List Int, v = .agg (ints .i64 zs).toArray ∧ zs.length = 16 := by
 obtain ⟨x, ⟨zs, h1, h2, _⟩, _⟩ := h
 exact ⟨zs, h1, h2⟩
theorem el_zero : ElF (.agg (ints .i64 (List.replicate 16 0)).toArray) 0 := ⟨0, ⟨List.replicate 16 0, rfl, by simp, fun z hz => by rw [List.eq_of_mem_replicate hz]; omega, 0, by decide⟩, fp_zero⟩
theorem radd_f {u v : Value} {a b : Fp} (w : World) (hu : ElF u a) (hv : ElF v b) : Calls Tryz.prog 81 #[u, v] w fun e w' => ∃ r, e = .returned r ∧ ElF r (a + b) ∧ Below w.heap.size w w' := by
 obtain ⟨x, hx, rfl⟩ := hu
 obtain ⟨y, hy, rfl⟩ := hv
 refine (radd_any u v x y w hx hy).mono ?_
 rintro e w' ⟨r, rfl, hr, hb⟩
 exact ⟨r, rfl, ⟨_, hr, fp_add x y⟩, hb⟩
theorem rsub_f {u v : Value} {a b : Fp} (w : World) (hu : ElF u a) (hv : ElF v b) : Calls Tryz.prog 80 #[u, v] w fun e w' => ∃ r, e = .returned r ∧ ElF r (a - b) ∧ Below w.heap.size w w' := by
 obtain ⟨x, hx, rfl⟩ := hu
 obtain ⟨y, hy, rfl⟩ := hv
 refine (rsub_any u v x y w hx hy).mono ?_
 rintro e w' ⟨r, rfl, hr, hb⟩
 exact ⟨r, rfl, ⟨_, hr, fp_sub x y⟩, hb⟩
theorem zfg {u v : Value} {a b : Fp} (w : World) (hu : ElF u a) (hv : ElF v b) : Calls Tryz.prog 69 #[u, v] w fun e w' => ∃ r, e = .returned r ∧ ElF r (a * b) ∧ Below w.heap.size w w' := by
 obtain ⟨x, hx, rfl⟩ := hu
 obtain ⟨y, hy, rfl⟩ := hv
 refine (rmul_any u v x y w hx hy).mono ?_
 rintro e w' ⟨r, rfl, hr, hb⟩
 exact ⟨r, rfl, ⟨_, hr, fp_mul x y⟩, hb⟩
theorem rone_f (n : Int) (w : World) (h1 : -131072 ≤ n) (h2 : n ≤ 131072) : Calls Tryz.prog 72 #[.int .i64 n] w fun e w' => ∃ r, e = .returned r ∧ ElF r (fp n) ∧ Below w.heap.size w w' := by
 refine (rone_el n w h1 h2).mono ?_
 rintro e w' ⟨r, rfl, hr, hb⟩
 exact ⟨r, rfl, ⟨_, hr, rfl⟩, hb⟩
theorem rin_f (l : List UInt8) (w : World) (hl : l.length = 32) : Calls Tryz.prog 78 #[.agg (l.map bval).toArray] w fun e w' => ∃ r, e = .returned r ∧ ElF r (fp (leN l)) ∧ Below w.heap.size w w' := by
 refine (rin_el l w hl).mono ?_
 rintro e w' ⟨r, rfl, hr, hb⟩
 exact ⟨r, rfl, ⟨_, hr, rfl⟩, hb⟩
theorem rinv_f {u : Value} {a : Fp} (w : World) (hu : ElF u a) : Calls Tryz.prog 67 #[u] w fun e w' => ∃ r, e = .returned r ∧ ElF r (fi a) ∧ Below w.heap.size w w' := by
 obtain ⟨x, hx, rfl⟩ := hu
 refine (rinv_any u x w hx).mono ?_
 rintro e w' ⟨r, rfl, hr, hb⟩
 refine ⟨r, rfl, ⟨_, hr, ?_⟩, hb⟩
 rw [fi_fp]
 congr 2
theorem rout_f {u : Value} {a : Fp} (w : World) (hu : ElF u a) : Calls Tryz.prog 68 #[u] w fun e w' => e = .returned (.agg ((nbF a).map bval).toArray) ∧ Below w.heap.size w w' := by
 obtain ⟨x, hx, rfl⟩ := hu
 exact rout_any u x w hx
theorem zau {zs : List Int} (h : zs.length = 16) : (Tryz.prog.info? 68).map (·.size) = some (ints .i64 zs).length := by rw [zaa, h]; exact Tryz.arr68
def ElB (w : World) (c : Nat) (f : Fp) : Prop := ∃ zs : List Int, zs.length = 16 ∧ Blk w c (ints .i64 zs) 68 ∧ ElF (.agg (ints .i64 zs).toArray) f
theorem ElB.ext {w w' : World} {c : Nat} {f : Fp} (h : ElB w c f) (hb : Ext w w') : ElB w' c f := by
 obtain ⟨zs, h1, h2, h3⟩ := h
 exact ⟨zs, h1, zad h2 hb, h3⟩
theorem ElB.lt {w : World} {c : Nat} {f : Fp} (h : ElB w c f) : c < w.heap.size := by
 obtain ⟨zs, h1, h2, h3⟩ := h
 exact h2.lt
theorem ElB.grown {w w' : World} {c g : Nat} {f : Fp} (h : ElB w c f) (hg : w.grownBy w' (some g)) (hc : some g ≠ some c) : ElB w' c f := by
 obtain ⟨zs, h1, h2, h3⟩ := h
 exact ⟨zs, h1, h2.grown hg hc, h3⟩
def PX (P : Pt) (X Y Z T : Fp) : Prop := Z ≠ 0 ∧ X = P.x * Z ∧ Y = P.y * Z ∧ T = P.x * P.y * Z
theorem ext_of {P : Pt} : PX P P.x P.y 1 (P.x * P.y) := ⟨f_one_ne, (Fin.mul_one _).symm, (Fin.mul_one _).symm, (Fin.mul_one _).symm⟩
theorem ext_zero : PX pzero 0 1 1 0 := by
 refine ⟨f_one_ne, ?_, ?_, ?_⟩
 ·exact (Fin.zero_mul _).symm
 ·exact (Fin.mul_one _).symm
 ·show (0 : Fp) = 0 * 1 * 1
  rw [Fin.zero_mul, Fin.zero_mul]
theorem sum_core {x1 y1 z1 x2 y2 z2 d x3 y3 t : Fp} (hx : x3 * (1 + d * (x1 * x2 * (y1 * y2))) = x1 * y2 + x2 * y1) (hy : y3 * (1 - d * (x1 * x2 * (y1 * y2))) = y1 * y2 + x1 * x2) :
  let a := (y1 * z1 - x1 * z1) * (y2 * z2 - x2 * z2)
  let b := (y1 * z1 + x1 * z1) * (y2 * z2 + x2 * z2)
  let c := x1 * y1 * z1 * (x2 * y2 * z2) * (d + d)
  let e := z1 * z2 + z1 * z2
  (b - a) = x3 * (e + c) ∧ (b + a) = y3 * (e - c) ∧ (e - c) = 2 * (z1 * z2) * (1 - d * (x1 * x2 * (y1 * y2))) ∧ (e + c) = 2 * (z1 * z2) * (1 + d * (x1 * x2 * (y1 * y2))) := by
 intro a b c e
 have ep : e + c = 2 * (z1 * z2) * (1 + d * (x1 * x2 * (y1 * y2))) := by
  show z1 * z2 + z1 * z2 + x1 * y1 * z1 * (x2 * y2 * z2) * (d + d) = _
  clear hx hy
  grind
 have em : e - c = 2 * (z1 * z2) * (1 - d * (x1 * x2 * (y1 * y2))) := by
  show z1 * z2 + z1 * z2 - x1 * y1 * z1 * (x2 * y2 * z2) * (d + d) = _
  clear hx hy ep
  grind
 refine ⟨?_, ?_, em, ep⟩
 ·rw [ep]
  have r : x3 * (2 * (z1 * z2) * (1 + d * (x1 * x2 * (y1 * y2)))) = 2 * (z1 * z2) * (x3 * (1 + d * (x1 * x2 * (y1 * y2)))) := by clear hx hy ep em; grind
  rw [r, hx]
  show (y1 * z1 + x1 * z1) * (y2 * z2 + x2 * z2) - (y1 * z1 - x1 * z1) * (y2 * z2 - x2 * z2) = _
  clear hx hy ep em r
  grind
 ·rw [em]
  have r : y3 * (2 * (z1 * z2) * (1 - d * (x1 * x2 * (y1 * y2)))) = 2 * (z1 * z2) * (y3 * (1 - d * (x1 * x2 * (y1 * y2)))) := by clear hx hy ep em; grind
  rw [r, hy]
  show (y1 * z1 + x1 * z1) * (y2 * z2 + x2 * z2) + (y1 * z1 - x1 * z1) * (y2 * z2 - x2 * z2) = _
  clear hx hy ep em r
  grind
theorem ext_sum {P Q : Pt} {X1 Y1 Z1 T1 X2 Y2 Z2 T2 : Fp} (h1 : PX P X1 Y1 Z1 T1) (h2 : PX Q X2 Y2 Z2 T2) :
  let a := (Y1 - X1) * (Y2 - X2)
  let b := (Y1 + X1) * (Y2 + X2)
  let c := T1 * T2 * (dF + dF)
  let e := Z1 * Z2 + Z1 * Z2
  PX (padd P Q) ((b - a) * (e - c)) ((b + a) * (e + c)) ((e - c) * (e + c)) ((b - a) * (b + a)) := by
 obtain ⟨hz1, hx1, hy1, ht1⟩ := h1
 obtain ⟨hz2, hx2, hy2, ht2⟩ := h2
 subst hx1 hy1 ht1 hx2 hy2 ht2
 intro a b c e
 obtain ⟨k1, k2, k3, k4⟩ := sum_core (z1 := Z1) (z2 := Z2) (t := 0) (padd_x P Q) (padd_y P Q)
 have n1 : e - c ≠ 0 := by
  show Z1 * Z2 + Z1 * Z2 - P.x * P.y * Z1 * (Q.x * Q.y * Z2) * (dF + dF) ≠ 0
  rw [k3]
  exact zci (zci f_two_ne (zci hz1 hz2)) (on_minus P.on Q.on)
 have n2 : e + c ≠ 0 := by
  show Z1 * Z2 + Z1 * Z2 + P.x * P.y * Z1 * (Q.x * Q.y * Z2) * (dF + dF) ≠ 0
  rw [k4]
  exact zci (zci f_two_ne (zci hz1 hz2)) (on_plus P.on Q.on)
 have m1 : b - a = (padd P Q).x * (e + c) := k1
 have m2 : b + a = (padd P Q).y * (e - c) := k2
 clear k1 k2 k3 k4
 unfold PX
 generalize (padd P Q).x = x at *
 generalize (padd P Q).y = y at *
 generalize b - a = h at *
 generalize b + a = i at *
 generalize e - c = f at *
 generalize e + c = g at *
 clear a b c e
 subst m1 m2
 refine ⟨zci n1 n2, ?_, ?_, ?_⟩
 ·clear n1 n2 hz1 hz2; grind
 ·clear n1 n2 hz1 hz2; grind
 ·clear n1 n2 hz1 hz2; grind
theorem ext_same {P Q : Pt} {X1 Y1 Z1 T1 X2 Y2 Z2 T2 : Fp} (h1 : PX P X1 Y1 Z1 T1) (h2 : PX Q X2 Y2 Z2 T2) (hx : X1 * Z2 = X2 * Z1) (hy : Y1 * Z2 = Y2 * Z1) : P = Q := by
 obtain ⟨hz1, hx1, hy1, -⟩ := h1
 obtain ⟨hz2, hx2, hy2, -⟩ := h2
 subst hx1 hy1 hx2 hy2
 refine Pt.ext' ?_ ?_
 ·apply f_cancel (zci hz1 hz2)
  generalize P.x = a at *; generalize Q.x = b at *
  have l : a * (Z1 * Z2) = a * Z1 * Z2 := by clear hx hy hz1 hz2; grind
  have r : b * (Z1 * Z2) = b * Z2 * Z1 := by clear hx hy hz1 hz2 l; grind
  rw [l, r, hx]
 ·apply f_cancel (zci hz1 hz2)
  generalize P.y = a at *; generalize Q.y = b at *
  have l : a * (Z1 * Z2) = a * Z1 * Z2 := by clear hx hy hz1 hz2; grind
  have r : b * (Z1 * Z2) = b * Z2 * Z1 := by clear hx hy hz1 hz2 l; grind
  rw [l, r, hy]
structure ES where
 x : Fp
 y : Fp
 z : Fp
 t : Fp
def ES.is (s : ES) (P : Pt) : Prop := PX P s.x s.y s.z s.t
def ES.sum (p q : ES) : ES :=
 let a := (p.y - p.x) * (q.y - q.x)
 let b := (p.y + p.x) * (q.y + q.x)
 let c := p.t * q.t * (dF + dF)
 let e := p.z * q.z + p.z * q.z
 ⟨(b - a) * (e - c), (b + a) * (e + c), (e - c) * (e + c), (b - a) * (b + a)⟩
theorem ES.is.sum {p q : ES} {P Q : Pt} (hp : p.is P) (hq : q.is Q) : (p.sum q).is (padd P Q) := ext_sum hp hq
def esZero : ES := ⟨0, 1, 1, 0⟩
theorem esZero_is : esZero.is pzero := ext_zero
def Pt.es (P : Pt) : ES := ⟨P.x, P.y, 1, P.x * P.y⟩
theorem Pt.es_is (P : Pt) : P.es.is P := ext_of
def erun (m : Nat) (p : ES) (n : Nat) : Nat → ES
 | 0 => esZero
 | t + 1 =>
  let r := (erun m p n t).sum (erun m p n t)
  if n.testBit (m - 1 - t) then r.sum p else r
theorem erun_is {p : ES} {P : Pt} (hp : p.is P) {m n : Nat} (hn : n < 2 ^ m) : ∀ t, t ≤ m → (erun m p n t).is (pmul (n >>> (m - t)) P)
 | 0, _ => by
  have e : n >>> (m - 0) = 0 := by
   rw [Nat.sub_zero, Nat.shiftRight_eq_div_pow]
   exact q157 hn
  rw [e]
  exact esZero_is
 | t + 1, h => by
  have ih := erun_is hp hn t (by omega)
  have e1 : m - (t + 1) = m - 1 - t := by omega
  have e2 : m - t = m - 1 - t + 1 := by omega
  have e3 : n >>> (m - 1 - t) = 2 * (n >>> (m - t)) + (n.testBit (m - 1 - t)).toNat := by
   rw [e2, Nat.shiftRight_succ, Nat.testBit_eq_decide_div_mod_eq, ← Nat.shiftRight_eq_div_pow]
   generalize n >>> (m - 1 - t) = k
   by_cases h : k % 2 = 1
   ·rw [decide_eq_true h]
    show k = 2 * (k / 2) + 1
    omega
   ·rw [decide_eq_false h]
    show k = 2 * (k / 2) + 0
    omega
  rw [e1, e3]
  have hd := ih.sum ih
  rw [← pmul_two] at hd
  show (if n.testBit (m - 1 - t) then _ else _ : ES).is _
  cases hb : n.testBit (m - 1 - t)
  ·exact hd
  ·exact hd.sum hp
theorem erun_full {p : ES} {P : Pt} (hp : p.is P) {m n : Nat} (hn : n < 2 ^ m) : (erun m p n m).is (pmul n P) := by
 have := erun_is hp hn m (q102 _)
 rwa [q152, Nat.shiftRight_zero] at this
def qB : Nat := 7237005577332262213973186563042994240857116359379907606001950938285454250989
theorem base_order_run : (erun 253 bP.es qB 253).x = 0 ∧ (erun 253 bP.es qB 253).y = (erun 253 bP.es qB 253).z := by decide +kernel
theorem base_order : pmul qB bP = pzero := by
 have h := erun_full (P := bP) (p := bP.es) bP.es_is (m := 253) (n := qB) (by decide +kernel)
 obtain ⟨hx, hy⟩ := base_order_run
 refine ext_same h ext_zero ?_ ?_
 ·rw [hx, Fin.zero_mul, Fin.zero_mul]
 ·rw [hy, Fin.mul_one, Fin.one_mul]
theorem dy_ne (y : Fp) : dF * (y * y) + 1 ≠ 0 := by
 intro h
 have hi := iF_sq
 have e : iF * iF = dF * (y * y) := by
  rw [hi]
  exact lin (-1) h (by clear h hi; grind)
 have hy := d_ratio e
 rw [hy, Fin.mul_zero, Fin.mul_zero, Fin.zero_add] at h
 exact f_one_ne h
def rad (y : Fp) : Fp := (y * y - 1) * fi (dF * (y * y) + 1)
theorem on_rad {x y : Fp} : On x y ↔ x * x = rad y := by
 have hn := dy_ne y
 have hf := f_inv hn
 unfold On rad
 generalize dF = d at *
 generalize hc : fi (d * (y * y) + 1) = c at *
 constructor
 ·intro h
  apply f_cancel hn
  have r : (y * y - 1) * c * (d * (y * y) + 1) = (y * y - 1) * ((d * (y * y) + 1) * c) := by clear h hf hc hn; grind
  rw [r, hf, Fin.mul_one]
  exact lin (-1) h (by clear h hf hc hn r; grind)
 ·intro h
  have h2 : x * x * (d * (y * y) + 1) = y * y - 1 := by
   rw [h]
   have r : (y * y - 1) * c * (d * (y * y) + 1) = (y * y - 1) * ((d * (y * y) + 1) * c) := by clear h hf hc hn; grind
   rw [r, hf, Fin.mul_one]
  exact lin (-1) h2 (by clear h h2 hf hc hn; grind)
theorem val_zero {x : Fp} : x.val = 0 ↔ x = 0 := by
 constructor
 ·intro h
  exact Fin.ext h
 ·intro h
  rw [h]
  rfl
theorem neg_val {x : Fp} (h : x ≠ 0) : (-x).val = pN - x.val := by
 have hx : 0 < x.val := Nat.pos_of_ne_zero (fun e => h (val_zero.1 e))
 have hl := x.isLt
 have e : (-x) = fp (-(x.val : Int)) := by rw [fp_neg, zdm]
 rw [e, fp_val, ← pN_cast]
 have : (-(x.val : Int)) % (pN : Int) = ((pN - x.val : Nat) : Int) := by
  rw [← Int.add_emod_right, q171 (by omega) (by omega)]
  omega
 rw [this]
 rfl
theorem pN_odd : pN % 2 = 1 := by decide +kernel
theorem neg_odd {x : Fp} (h : x ≠ 0) : (-x).val % 2 ≠ x.val % 2 := by
 rw [neg_val h]
 have := x.isLt
 have := pN_odd
 omega
theorem f_sq_eq {x z : Fp} (h : x * x = z * z) : x = z ∨ x = -z := by
 have e : (x - z) * (x + z) = 0 := by
  have : (x - z) * (x + z) = x * x - z * z := by clear h; grind
  rw [this, h, f_self]
 rcases f_dom e with e | e
 ·exact Or.inl (f_sub e)
 ·exact Or.inr (lin 1 e (by clear h e; grind))
def enc (P : Pt) : Nat := P.y.val + 2 ^ 255 * (P.x.val % 2)
theorem pN_lt : pN < 2 ^ 255 := by decide +kernel
theorem enc_y (P : Pt) : enc P % 2 ^ 255 = P.y.val := by
 have := P.y.isLt
 have := pN_lt
 unfold enc
 omega
theorem enc_x (P : Pt) : enc P / 2 ^ 255 = P.x.val % 2 := by
 have := P.y.isLt
 have := pN_lt
 unfold enc
 omega
theorem enc_inj {P Q : Pt} (h : enc P = enc Q) : P = Q := by
 have hy : P.y = Q.y := Fin.ext (by rw [← enc_y P, ← enc_y Q, h])
 have hx : P.x.val % 2 = Q.x.val % 2 := by rw [← enc_x P, ← enc_x Q, h]
 have h1 := on_rad.1 P.on
 have h2 := on_rad.1 Q.on
 rw [hy, ← h2] at h1
 refine Pt.ext' ?_ hy
 rcases f_sq_eq h1 with e | e
 ·exact e
 ·by_cases h0 : Q.x = 0
  ·rw [e, h0]
   decide +kernel
  ·rw [e] at hx
   exact absurd hx (neg_odd h0)
def pickX (x : Fp) (b : Nat) : Fp := if x.val % 2 = b then x else -x
theorem pickX_sq (x : Fp) (b : Nat) : pickX x b * pickX x b = x * x := by
 unfold pickX
 split
 ·rfl
 ·grind
theorem pickX_odd {x : Fp} {b : Nat} (hb : b < 2) (h : ¬ (x = 0 ∧ b = 1)) : (pickX x b).val % 2 = b := by
 unfold pickX
 by_cases hx : x.val % 2 = b
 ·rw [if_pos hx]
  exact hx
 ·rw [if_neg hx]
  have h0 : x ≠ 0 := fun e => by
   subst e
   have : (0 : Fp).val = 0 := rfl
   rw [this] at hx
   exact h ⟨rfl, by omega⟩
  have := neg_odd h0
  omega
def readP (x y : Fp) (b : Nat) (h : x * x = rad y) : Pt := ⟨pickX x b, y, on_rad.2 ((pickX_sq x b).trans h)⟩
theorem readP_enc {x y : Fp} {b : Nat} (h : x * x = rad y) (hb : b < 2) (h0 : ¬ (x = 0 ∧ b = 1)) : enc (readP x y b h) = y.val + 2 ^ 255 * b := by
 show y.val + 2 ^ 255 * ((pickX x b).val % 2) = _
 rw [pickX_odd hb h0]
theorem no_point {y : Fp} {b : Nat} (hb : b < 2) (h : ∀ x, x * x = rad y → x = 0 ∧ b = 1) (P : Pt) : enc P ≠ y.val + 2 ^ 255 * b := by
 intro he
 have hy : P.y = y := Fin.ext (by
  rw [← enc_y P, he]
  have := y.isLt
  have := pN_lt
  omega)
 have hx : P.x.val % 2 = b := by
  rw [← enc_x P, he]
  have := y.isLt
  have := pN_lt
  omega
 obtain ⟨e1, e2⟩ := h P.x (hy ▸ on_rad.1 P.on)
 rw [e1, e2] at hx
 exact absurd hx (by decide)
theorem enc_lt (P : Pt) : enc P < 2 ^ 256 := by
 have := P.y.isLt
 have := pN_lt
 unfold enc
 omega
theorem sign_holds (r k a : Nat) : pmul ((r + k * a) % qB) bP = padd (pmul r bP) (pmul k (pmul a bP)) := by
 rw [pmul_mod base_order, pmul_add, pmul_mul]
section
section
variable {P : Program} {ops : Array Oper} {Q : Exit → Act → World → Prop}
theorem wpList_eql {rest : List Oper} {o : Oper} {a : Act} {w : World} (hw : Region.wanted o (yielded ops a.tmps) = true) (b : BinOp) (ty rt e : TypeId) (x y : Operand) (n : Nat) (i : TypeInfo) (xs ys : List UInt8) (r : Bool) (ho : o.op = .binOp b ty x y rt)
  (hb : b = .eql ∧ decide (xs = ys) = r ∨ b = .neq ∧ decide (xs = ys) = !r)
  (hu : P.underlying ty = some (.array n e)) (he : P.underlying e = some (.int .u8)) (hi : P.info? e = some i) (hc : P.cellsOf e = 1) (hg : P.eqGuardType P.depth ty = false)
  (hx : a.eval x = .agg (xs.map bval).toArray) (hy : a.eval y = .agg (ys.map bval).toArray) (lx : xs.length = n) (ly : ys.length = n)
  (next : wpList P ops Q rest (a.put o.dst (.bool r)) w) : wpList P ops Q (o :: rest) a w := by
 refine wpList_step fun K hK => ?_
 rw [if_pos hw]
 have h1 := zff hu he hi hc xs ys lx ly w
 unfold Oper.wp execOp
 rcases hb with ⟨rfl, hb⟩ | ⟨rfl, hb⟩
 ·rw [hb] at h1
  simp only [ho, hx, hy]
  simp [eqGuard, hg, binOp, h1]
  exact hK _ _ next
 ·rw [hb] at h1
  simp only [ho, hx, hy]
  simp [eqGuard, hg, binOp, h1]
  exact hK _ _ next
end
end
section
section
variable {P : Program} {ops : Array Oper} {Q : Exit → Act → World → Prop}
theorem zbo {rest : List Oper} {o : Oper} {a : Act} {w : World} (hw : Region.wanted o (yielded ops a.tmps) = true) (ty : TypeId) (x : Operand) (ho : o.op = .load ty x)
  (c : Nat) (hx : a.eval x = .pointer (some ⟨c, 0, none⟩)) (t : TypeId) (cs : List Value) (n : Nat) (e : TypeId) (hb : Blk w c cs t)
  (hu : P.underlying ty = some (.array n e)) (hi : (P.info? ty).map (·.size) = some cs.length)
  (next : wpList P ops Q rest (a.put o.dst (.agg cs.toArray)) w) : wpList P ops Q (o :: rest) a w := by
 refine wpList_step fun K hK => ?_
 rw [if_pos hw]
 exact wp_load_mid ty x ho c 0 hx cs _ hb.range hu rfl hi (hK _ _ next)
end
end
section
section
variable {P : Program} {w w' : World} {v : Value} {vs : List Value}
theorem own_made (w : World) (c : Array Value) (base : Nat) (e : TypeId) (n : Nat) (l : List Value) (hc : c.toList = l) (hl : l.length = n) (hm : n ≤ maxLen) (hb : base ≤ w.heap.size) : (w.alloc (.cells c e)).ownsRow base e 1 (.slice (some ⟨w.heap.size, 0, none⟩) n n) n l := by
 subst hl; subst hc
 refine ⟨by simp, Or.inr ⟨w.heap.size, c.toList.length, c, rfl, hb, heap_alloc_new w _, q102 _, hm, by simp, by rw [Nat.mul_one]; exact q110 (q102 _)⟩⟩
theorem ext_own {a b d : World} {base : Nat} {e : TypeId} {n : Nat} {x : Value} {xs : List Value} (h : Ext a b) (ho : b.ownsRow base e 1 x n xs) (hb : a.heap.size ≤ base) (hg : b.grownBy d x.ownBlock) : Ext a d :=
 Below.grown h hg h.size (fun r hr => by
  obtain ⟨_, h1 | ⟨g, cap, cur, rfl, h2, _⟩⟩ := ho
  ·obtain ⟨rfl, _⟩ := h1
   cases hr
  ·cases hr
   exact q121 hb h2)
end
end
section
section
variable {P : Program} {ops : Array Oper} {Q : Exit → Act → World → Prop} {md : Region.Mode} {t : Nat} {C : World → Prop} {D : Act → Prop}
theorem zaz {o : Oper} {a : Act} {ty : TypeId} {zs : List Value} (ho : o.op = .alloc ty) (hz : ∀ w, (zeroValue ty).run P w = .ok (.agg zs.toArray) w) (w : World) :
  (execOp a.eval o).run P w = .ok (.value (.pointer (some ⟨w.heap.size, 0, none⟩))) (w.alloc (.cells zs.toArray ty)) := by
 unfold execOp
 simp [ho, Instr.alloc, hz, newVar, newRow, Value.cells]
theorem two_stores {k : Nat} {o3 o4 : Oper} {listed : Array Bool} {a : Act} {w w' : World} (ty : TypeId) (d1 d2 p q : Nat) (y1 y2 : Operand) (zs vs1 vs2 : List Value) (hk3 : ops[k]? = some o3) (hk4 : ops[k + 1]? = some o4)
  (hr : Region.ready md ops listed = [k]) (hr2 : Region.ready md ops (listed.setIfInBounds k true) = [k + 1]) (hr3 : Region.ready md ops ((listed.setIfInBounds k true).setIfInBounds (k + 1) true) = [])
  (hg3 : o3.guard = none) (hg4 : o4.guard = none) (ho3 : o3.op = .store ty (.tmp d1) y1) (ho4 : o4.op = .store ty (.tmp d2) y2) (hn3 : o3.dst = none) (hn4 : o4.dst = none)
  (hx1 : a.eval (.tmp d1) = .pointer (some ⟨p, 0, none⟩)) (hx2 : a.eval (.tmp d2) = .pointer (some ⟨q, 0, none⟩)) (hy1 : a.eval y1 = .agg vs1.toArray) (hy2 : a.eval y2 = .agg vs2.toArray) (hpq : p ≠ q)
  (hb1 : Blk w' p zs ty) (hb2 : Blk w' q zs ty) (hl1 : vs1.length = zs.length) (hl2 : vs2.length = zs.length) (hi1 : (P.info? ty).map (·.size) = some vs1.length) (hi2 : (P.info? ty).map (·.size) = some vs2.length)
  (h1 : ∀ v ∈ vs1, v.oneCell' = true) (h2 : ∀ v ∈ vs2, v.oneCell' = true) (he : Ext w w') (hp : w.heap.size ≤ p) (hq : w.heap.size ≤ q)
  (h : ∀ w4, Blk w4 p vs1 ty → Blk w4 q vs2 ty → Ext w w4 → Q .normal a w4) : wpAny P md ops Q 2 listed a w' := by
 refine ⟨fun h0 => (by rw [hr] at h0; cases h0), fun i hi => ?_⟩
 rw [hr] at hi
 obtain rfl : i = k := by simpa using hi
 unfold wpOp
 simp only [hk3, Region.wanted, hg3, if_true]
 left
 refine zak ty (.tmp d1) y1 ho3 p vs1 hx1 hy1 ty zs hb1 hl1 hi1 h1 fun w2 hb3 hg => ?_
 rw [hn3]
 refine ⟨fun h0 => (by rw [hr2] at h0; cases h0), fun j hj => ?_⟩
 rw [hr2] at hj
 obtain rfl : j = i + 1 := by simpa using hj
 unfold wpOp
 simp only [hk4, Region.wanted, hg4, if_true]
 left
 refine zak ty (.tmp d2) y2 ho4 q vs2 hx2 hy2 ty zs (hb2.grown hg (by simpa using hpq)) hl2 hi2 h2 fun w4 hb4 hg4 => ?_
 rw [hn4]
 exact ⟨hr3, h w4 (hb3.grown hg4 (by simpa using fun e => hpq e.symm)) hb4 (zab (zab he hg hp) hg4 hq)⟩
theorem end_var2 {k : Nat} {o1 o2 o3 o4 : Oper} {listed : Array Bool} {a : Act} {w : World} (ty : TypeId) (d1 d2 : Nat) (y1 y2 : Operand) (zs vs1 vs2 : List Value)
  (hk1 : ops[k]? = some o1) (hk2 : ops[k + 1]? = some o2) (hk3 : ops[k + 2]? = some o3) (hk4 : ops[k + 2 + 1]? = some o4)
  (hr : Region.ready md ops listed = [k, k + 1]) (hr1 : Region.ready md ops (listed.setIfInBounds k true) = [k + 1]) (hr2 : Region.ready md ops (listed.setIfInBounds (k + 1) true) = [k])
  (hr3 : Region.ready md ops ((listed.setIfInBounds k true).setIfInBounds (k + 1) true) = [k + 2]) (hr4 : Region.ready md ops (((listed.setIfInBounds k true).setIfInBounds (k + 1) true).setIfInBounds (k + 2) true) = [k + 2 + 1])
  (hr5 : Region.ready md ops ((((listed.setIfInBounds k true).setIfInBounds (k + 1) true).setIfInBounds (k + 2) true).setIfInBounds (k + 2 + 1) true) = [])
  (hd : doneB t listed = false) (hd1 : doneB t (listed.setIfInBounds k true) = false) (hd2 : doneB t (listed.setIfInBounds (k + 1) true) = false) (hd3 : doneB t ((listed.setIfInBounds k true).setIfInBounds (k + 1) true) = true)
  (hg1 : o1.guard = none) (hg2 : o2.guard = none) (hg3 : o3.guard = none) (hg4 : o4.guard = none) (ho1 : o1.op = .alloc ty) (ho2 : o2.op = .alloc ty) (hd1' : o1.dst = some d1) (hd2' : o2.dst = some d2) (hdd : d1 ≠ d2)
  (hz : ∀ w, (zeroValue ty).run P w = .ok (.agg zs.toArray) w) (ho3 : o3.op = .store ty (.tmp d1) y1) (ho4 : o4.op = .store ty (.tmp d2) y2) (hn3 : o3.dst = none) (hn4 : o4.dst = none) (hs1 : d1 < a.tmps.size) (hs2 : d2 < a.tmps.size)
  (hy1 : ∀ p q, ((a.put (some d1) (.pointer (some ⟨p, 0, none⟩))).put (some d2) (.pointer (some ⟨q, 0, none⟩))).eval y1 = .agg vs1.toArray)
  (hy2 : ∀ p q, ((a.put (some d1) (.pointer (some ⟨p, 0, none⟩))).put (some d2) (.pointer (some ⟨q, 0, none⟩))).eval y2 = .agg vs2.toArray)
  (hl1 : vs1.length = zs.length) (hl2 : vs2.length = zs.length) (hi1 : (P.info? ty).map (·.size) = some vs1.length) (hi2 : (P.info? ty).map (·.size) = some vs2.length) (h1 : ∀ v ∈ vs1, v.oneCell' = true) (h2 : ∀ v ∈ vs2, v.oneCell' = true)
  (h : ∀ p q w', p ≠ q → w.heap.size ≤ p → w.heap.size ≤ q → Blk w' p vs1 ty → Blk w' q vs2 ty → Ext w w' → Q .normal ((a.put (some d1) (.pointer (some ⟨p, 0, none⟩))).put (some d2) (.pointer (some ⟨q, 0, none⟩))) w') :
  wpAnyB P md ops Q t 4 listed a w.drew := by
 have tail : ∀ p q w', Blk w' p zs ty → Blk w' q zs ty → p ≠ q → w.heap.size ≤ p → w.heap.size ≤ q → Ext w w' →
   wpAny P md ops Q 2 ((listed.setIfInBounds k true).setIfInBounds (k + 1) true) ((a.put (some d1) (.pointer (some ⟨p, 0, none⟩))).put (some d2) (.pointer (some ⟨q, 0, none⟩))) w' := by
  intro p q w' b1 b2 hpq hp hq he
  refine two_stores ty d1 d2 p q y1 y2 zs vs1 vs2 hk3 hk4 hr3 hr4 hr5 hg3 hg4 ho3 ho4 hn3 hn4 ?_ ?_ (hy1 p q) (hy2 p q) hpq b1 b2 hl1 hl2 hi1 hi2 h1 h2 he hp hq (fun w4 b3 b4 e4 => h p q w4 hpq hp hq b3 b4 e4)
  ·simp [Act.eval, Act.put, hs1, Ne.symm hdd]
  ·simp [Act.eval, Act.put, hs2]
 refine ⟨fun h0 => (by rw [hd] at h0; cases h0), fun _ w1 hw1 => ⟨by rw [hr]; simp, fun i hi => ?_⟩⟩
 rw [hr] at hi
 have he1 : Ext w w1 := (Ext.drew w).trans hw1
 simp only [List.mem_cons, q165, or_false] at hi
 rcases hi with rfl | rfl
 ·unfold wpOp
  simp only [hk1, Region.wanted, hg1, if_true]
  left
  unfold Oper.wp
  rw [zaz ho1 hz]
  simp only [Oper.upon, hd1']
  refine ⟨Ext.alloc _ _, fun h0 => (by rw [hd1] at h0; cases h0), fun _ w2 hw2 => ⟨by rw [hr1]; simp, fun j hj => ?_⟩⟩
  rw [hr1] at hj
  obtain rfl : j = i + 1 := by simpa using hj
  have hb1 : Blk w2 w1.heap.size zs ty := zad (Blk.made w1 zs ty) hw2
  unfold wpOp
  simp only [hk2, Region.wanted, hg2, if_true]
  left
  unfold Oper.wp
  rw [zaz ho2 hz]
  simp only [Oper.upon, hd2']
  refine ⟨Ext.alloc _ _, fun _ w3 hw3 => ?_, fun h0 => (by rw [hd3] at h0; cases h0)⟩
  refine tail _ _ w3 (zad (zad hb1 (Ext.alloc w2 _)) hw3) (zad (Blk.made w2 zs ty) hw3) (by have := hb1.lt; omega) he1.size (q121 he1.size (Nat.le_of_lt hb1.lt)) (((he1.trans (Ext.alloc _ _)).trans hw2).trans ((Ext.alloc _ _).trans hw3))
 ·unfold wpOp
  simp only [hk2, Region.wanted, hg2, if_true]
  left
  unfold Oper.wp
  rw [zaz ho2 hz]
  simp only [Oper.upon, hd2']
  refine ⟨Ext.alloc _ _, fun h0 => (by rw [hd2] at h0; cases h0), fun _ w2 hw2 => ⟨by rw [hr2]; simp, fun j hj => ?_⟩⟩
  rw [hr2] at hj
  obtain rfl : j = k := by simpa using hj
  have hb1 : Blk w2 w1.heap.size zs ty := zad (Blk.made w1 zs ty) hw2
  unfold wpOp
  simp only [hk1, Region.wanted, hg1, if_true]
  left
  unfold Oper.wp
  rw [zaz ho1 hz]
  simp only [Oper.upon, hd1']
  rw [Array.setIfInBounds_comm _ _ (by omega : j + 1 ≠ j), Act.put_comm a _ _ (by simpa using fun e => hdd e)]
  refine ⟨Ext.alloc _ _, fun _ w3 hw3 => ?_, fun h0 => (by rw [hd3] at h0; cases h0)⟩
  refine tail _ _ w3 (zad (Blk.made w2 zs ty) hw3) (zad (zad hb1 (Ext.alloc w2 _)) hw3) (by have := hb1.lt; omega) (q121 he1.size (Nat.le_of_lt hb1.lt)) he1.size (((he1.trans (Ext.alloc _ _)).trans hw2).trans ((Ext.alloc _ _).trans hw3))
theorem end_set_assign {k : Nat} {o o2 : Oper} {listed : Array Bool} {a : Act} {w : World} (ty tb : TypeId) (x y z : Operand) (d : Nat) (u : Value) (c : Nat) (vs cs : List Value) (hk : ops[k]? = some o) (hk2 : ops[k + 1]? = some o2) (hr : Region.ready md ops listed = [k]) (hr2 : Region.ready md ops (listed.setIfInBounds k true) = [k + 1])
  (hr3 : Region.ready md ops ((listed.setIfInBounds k true).setIfInBounds (k + 1) true) = []) (hd : doneB t listed = true) (hg : o.guard = none) (hg2 : o2.guard = none) (hn : o.dst = none)
  (ho : o.op = .store ty x y) (hx : a.eval x = .pointer (some ⟨c, 0, none⟩)) (hy : a.eval y = .agg vs.toArray) (hb : Blk w c cs tb) (hl : vs.length = cs.length) (hi : (P.info? ty).map (·.size) = some vs.length) (h1 : ∀ v ∈ vs, v.oneCell' = true)
  (ho2 : o2.op = .assign z) (hd2 : o2.dst = some d) (hz : a.eval z = u) (h : ∀ w', Blk w' c vs tb → w.grownBy w' (some c) → Q .normal (a.put (some d) u) w') : wpAnyB P md ops Q t 2 listed a w.drew := by
 refine ⟨fun _ w' hw' => ⟨fun h0 => (by rw [hr] at h0; cases h0), fun i hi' => ?_⟩, fun h0 => (by rw [hd] at h0; cases h0)⟩
 rw [hr] at hi'
 obtain rfl : i = k := by simpa using hi'
 have he : Ext w w' := (Ext.drew w).trans hw'
 unfold wpOp
 simp only [hk, Region.wanted, hg, if_true]
 left
 refine zak ty x y ho c vs hx hy tb cs (zad hb he) hl hi h1 fun w2 hb2 hg2' => ?_
 rw [hn]
 refine ⟨fun h0 => (by rw [hr2] at h0; cases h0), fun j hj => ?_⟩
 rw [hr2] at hj
 obtain rfl : j = i + 1 := by simpa using hj
 unfold wpOp
 simp only [hk2, Region.wanted, hg2, if_true]
 left
 unfold Oper.wp execOp
 have hz' : (Act.put a none undef).eval z = u := hz
 simp only [ho2, hz', Sem.run_pure, Oper.upon, hd2]
 exact ⟨hr3, h w2 hb2 (grownBy_trans (grown_of_below he _) hg2')⟩
end
end
section
section
variable {P : Program} {ops : Array Oper} {Q : Exit → Act → World → Prop} {md : Region.Mode} {t : Nat}
theorem end_free {m : Nat} {listed : Array Bool} {a : Act} {w : World} (hd : doneB t listed = true) (h0 : Region.ready md ops listed ≠ []) (h : ∀ w', Ext w w' → wpAny P md ops Q (m + 1) listed a w') : wpAnyB P md ops Q t (m + 1) listed a w.drew :=
 ⟨fun _ w' hw' => h w' ((Ext.drew w).trans hw'), fun h' => by rw [hd] at h'; cases h'⟩
theorem any_one {m k : Nat} {o : Oper} {listed : Array Bool} {a : Act} {w : World} (hk : ops[k]? = some o) (hr : Region.ready md ops listed = [k]) (hg : o.guard = none)
  (h : o.wp P a w (fun a' w'' => wpAny P md ops Q m (listed.setIfInBounds k true) a' w'') Q) : wpAny P md ops Q (m + 1) listed a w := by
 refine ⟨fun h0 => (by rw [hr] at h0; cases h0), fun i hi => ?_⟩
 rw [hr] at hi
 obtain rfl : i = k := by simpa using hi
 unfold wpOp
 simp only [hk, Region.wanted, hg, if_true]
 exact Or.inl h
theorem any_nil {listed : Array Bool} {a : Act} {w : World} (hr : Region.ready md ops listed = []) (h : Q .normal a w) : wpAny P md ops Q 0 listed a w := ⟨hr, h⟩
theorem zbk {o : Oper} {a : Act} {w : World} {K : Act → World → Prop} (d : Option Nat) (t e : TypeId) (len : Nat) (parts : Array (Nat × Operand)) (hd : o.dst = d) (ho : o.op = .buildSlice t len parts)
  (cells : Array Value) (ie : TypeInfo) (z : Value)
  (hu : P.underlying t = some (.slice e)) (hie : P.info? e = some ie) (hz : ie.zero = some z) (hsmall : ¬ len * ie.size > 2 ^ 24) (hpos : ¬ len * ie.size = 0)
  (hf : Instr.fill (fun i => some (i * ie.size, ie.size)) ((Array.range (len * ie.size)).map (z.cells[· % z.cells.size]!)) (parts.map fun (i, x) => (i, a.eval x)).toList = some cells)
  (h : K (a.put d (.slice (some ⟨w.heap.size, 0, none⟩) len len)) (w.alloc (.cells cells e))) : o.wp P a w K Q := by
 subst hd
 exact wp_buildSlice t e len parts ho cells ie z hu hie hz hsmall hpos hf h
theorem zey {C : World → Prop} {D : Act → Prop} {o : Oper} {rest : List Oper} {a : Act} (ty e : TypeId) (x y : Operand) (c off len cap j : Nat) (hw : Region.wanted o (yielded ops a.tmps) = true) (ho : o.op = .indexAddr ty x y) (hx : a.eval x = .slice (some ⟨c, off, none⟩) len cap) (hy : a.eval y = .int .i64 (j : Int))
  (hu : P.underlying ty = some (.slice e)) (hj : j < len) (hs : ∀ w, (sizeOf e).run P w = .ok 1 w)
  (next : wpDet P ops C D rest (a.put o.dst (.pointer (some ⟨c, off + j, none⟩)))) : wpDet P ops C D (o :: rest) a :=
 zaw _ hw (fun w _ => by
  have h1 : (0 : Int) ≤ (j : Int) ∧ (j : Int) < (len : Int) := by omega
  unfold execOp
  simp [ho, hx, hy, Instr.indexAt, asIntOf, run_underlying hu, Instr.sureAddr, h1, hs, WideShapes.add_plain, hj]) next
end
end
section
section
variable {P : Program} {ops : Array Oper} {Q : Exit → Act → World → Prop}
theorem quietAt_ext {o : Oper} {a : Act} {w w' : World} {v : Value} (he : Ext w w') (h : o.quietAt P a (Ext w') w' v) : o.quietAt P a (Ext w) w' v := by
 unfold Oper.quietAt at *
 generalize (execOp a.eval o).run P w' = r at *
 cases r with
 | halt x w2 => exact h.elim
 | ok n w2 =>
  cases n <;> simp only [Oper.quietUpon] at h ⊢
  case value u => exact h
  case skip => exact h
  case enter f args => exact ⟨h.1, h.2.mono fun e w3 h3 => ⟨h3.1, he.trans h3.2⟩⟩
theorem quiet_of_det {w : World} {D : Act → Prop} : ∀ (l : List Oper) (a : Act), wpDet P ops (Ext w) D l a → wpQuiet P ops (Ext w) D l a
 | [], _, h => h
 | o :: l, a, h => by
  unfold wpQuiet
  split
  ·rename_i hw
   obtain ⟨v, h1, h2⟩ := h.1 hw
   exact ⟨v, fun w' hw' => quietAt_ext hw' (h1 w' hw'), quiet_of_det l _ h2⟩
  ·rename_i hw
   exact quiet_of_det l _ (h.2 (by simpa using hw))
theorem zbb {id : Nat} {a : Act} {w : World} (hm : P.follows .mixedOrders = true) (hB : Region.lexB .any ops = true)
  (h : wpDet P ops (Ext w) (fun a' => ∀ w', Ext w w' → Q .normal a' w') ops.toList a) : (Code.region id ops true).wp P Q a w :=
 wp_region_quiet (C := Ext w) hm hB (Ext.drew w) (quiet_of_det _ _ h)
end
end
section
section
variable {P : Program} {ops : Array Oper} {S : World → Prop}
theorem zbj {o : Oper} {a : Act} (v : Value) (hw : Region.wanted o (yielded ops a.tmps) = true) (h : ∀ w, S w → (execOp a.eval o).run P w = .ok (.value v) w) : YieldsIf P ops S o v a := Or.inl ⟨hw, h⟩
theorem zbt {o : Oper} {a : Act} (hw : Region.wanted o (yielded ops a.tmps) = false) : YieldsIf P ops S o undef a := Or.inr ⟨hw, rfl⟩
theorem zbm {o : Oper} {a : Act} (x : Operand) (v : Value) (hw : Region.wanted o (yielded ops a.tmps) = true) (ho : o.op = .move x) (hx : a.eval x = v) : YieldsIf P ops S o v a :=
 zbj v hw (fun w _ => by unfold execOp; simp only [ho, hx, Sem.run_pure])
theorem yi_assign {o : Oper} {a : Act} (x : Operand) (v : Value) (hw : Region.wanted o (yielded ops a.tmps) = true) (ho : o.op = .assign x) (hx : a.eval x = v) : YieldsIf P ops S o v a :=
 zbj v hw (fun w _ => by unfold execOp; simp only [ho, hx, Sem.run_pure])
theorem zct {o : Oper} {a : Act} (c x y : Operand) (b : Bool) (v : Value) (hw : Region.wanted o (yielded ops a.tmps) = true) (ho : o.op = .pick c x y) (hc : a.eval c = .bool b) (hx : (if b then a.eval x else a.eval y) = v) : YieldsIf P ops S o v a :=
 zbj v hw (fun w _ => by
  unfold execOp
  cases b <;> simp only [ho, hc, Bool.false_eq_true, if_false, if_true] at hx ⊢ <;> simp [asBool, hx])
theorem zdy {o : Oper} {a : Act} (t : TypeId) (x : Operand) (lo hi : Option Operand) (vx v : Value) (vlo vhi : Option Value) (hw : Region.wanted o (yielded ops a.tmps) = true) (ho : o.op = .slice t x lo hi none) (hx : a.eval x = vx) (hlo : lo.map a.eval = vlo) (hhi : hi.map a.eval = vhi)
  (h : ∀ w, (Instr.sliceAt t vx vlo vhi none).run P w = .ok v w) : YieldsIf P ops S o v a :=
 zbj v hw (fun w _ => by
  unfold execOp
  simp only [ho, hx, hlo, hhi, Option.map_none, Sem.run_bind, h, Result.andThen_ok, Sem.run_pure])
theorem zbn {o : Oper} {a : Act} {w : World} {K : Act → World → Prop} {Q : Exit → Act → World → Prop} {E : Prop} (hw : Region.wanted o (yielded ops a.tmps) = true) (h : Oper.wp P o a w K Q) : if Region.wanted o (yielded ops a.tmps) = true then Oper.wp P o a w K Q else E := by
 rw [if_pos hw]
 exact h
end
end
section
section
variable {P : Program} {ops : Array Oper} {S : World → Prop}
theorem yi_not {o : Oper} {a : Act} (ty : TypeId) (x : Operand) (b : Bool) (hw : Region.wanted o (yielded ops a.tmps) = true) (ho : o.op = .unOp .not ty x) (hx : a.eval x = .bool b) : YieldsIf P ops S o (.bool !b) a :=
 zbj _ hw (fun w _ => by
  unfold execOp
  simp [ho, hx, Op.unary, Result.andThen])
theorem yi_eqi {o : Oper} {a : Act} (k : IntKind) (ty rt : TypeId) (x y : Operand) (b c : Int) (r : Bool) (hr : decide (b = c) = r) (hw : Region.wanted o (yielded ops a.tmps) = true) (ho : o.op = .binOp .eql ty x y rt) (hx : a.eval x = .int k b) (hy : a.eval y = .int k c) : YieldsIf P ops S o (.bool r) a :=
 zbj _ hw (fun w _ => by
  subst hr
  unfold execOp
  simp only [ho, hx, hy]
  simp [eqGuard, binOp, Op.intCmp, Result.andThen]
  try rw [Bool.eq_iff_iff]; simp)
theorem wp_alloc_d {o : Oper} {a : Act} {w : World} {K : Act → World → Prop} {Q : Exit → Act → World → Prop} (d : Option Nat) (ty : TypeId) (zs : List Value) (hd : o.dst = d) (ho : o.op = .alloc ty) (hz : ∀ w, (zeroValue ty).run P w = .ok (.agg zs.toArray) w)
  (h : K (a.put d (.pointer (some ⟨w.heap.size, 0, none⟩))) (w.alloc (.cells zs.toArray ty))) : o.wp P a w K Q := by
 subst hd
 unfold Oper.wp
 rw [zaz ho hz]
 exact h
theorem wp_conv_d {o : Oper} {a : Act} {w : World} {K : Act → World → Prop} {Q : Exit → Act → World → Prop} (d : Option Nat) (s t : TypeId) (x : Operand) (vx v : Value) (w' : World) (hd : o.dst = d) (ho : o.op = .convert s t x) (hx : a.eval x = vx) (hr : (convert s t vx).run P w = .ok v w')
  (h : K (a.put d v) w') : o.wp P a w K Q := by
 subst hd
 unfold Oper.wp execOp
 simp only [ho, hx, Sem.run_bind, hr, Result.andThen_ok, Sem.run_pure]
 exact h
theorem yi_neqB {o : Oper} {a : Act} (ty rt e : TypeId) (x y : Operand) (n : Nat) (i : TypeInfo) (xs ys : List UInt8) (r : Bool) (hw : Region.wanted o (yielded ops a.tmps) = true) (ho : o.op = .binOp .neq ty x y rt) (hb : decide (xs = ys) = !r)
  (hu : P.underlying ty = some (.array n e)) (he : P.underlying e = some (.int .u8)) (hi : P.info? e = some i) (hc : P.cellsOf e = 1) (hg : P.eqGuardType P.depth ty = false)
  (hx : a.eval x = .agg (xs.map bval).toArray) (hy : a.eval y = .agg (ys.map bval).toArray) (lx : xs.length = n) (ly : ys.length = n) : YieldsIf P ops S o (.bool r) a :=
 zbj _ hw (fun w _ => by
  have h1 := zff hu he hi hc xs ys lx ly w
  rw [hb] at h1
  unfold execOp
  simp [ho, hx, hy, eqGuard, hg, binOp, h1])
theorem yi_build {o : Oper} {a : Act} (ty : TypeId) (parts : Array (Nat × Operand)) (vs : Array (Nat × Value)) (v : Value) (hr : ∀ w, (Instr.build ty vs).run P w = .ok v w) (hw : Region.wanted o (yielded ops a.tmps) = true) (ho : o.op = .build ty parts) (hp : parts.map (fun (i, x) => (i, a.eval x)) = vs) : YieldsIf P ops S o v a :=
 zbj _ hw (fun w _ => by
  subst hp
  unfold execOp
  simp only [ho, Sem.run_bind, hr, Result.andThen_ok, Sem.run_pure])
end
end
theorem fold_lay (off : Nat) (post : List Value) : ∀ (new mid pre : List Value) (k : Nat), new.length = mid.length → pre.length = off + k →
  (new.zipIdx k).foldl (fun (cs : Array Value) (x : Value × Nat) => cs.setIfInBounds (off + x.2) x.1) (pre ++ (mid ++ post)).toArray = (pre ++ (new ++ post)).toArray
 | [], mid, pre, k, h, hp => by
  obtain rfl : mid = [] := q179 (by simpa using h.symm)
  rfl
 | c :: new, [], pre, k, h, hp => by simp at h
 | c :: new, m :: mid, pre, k, h, hp => by
  rw [List.zipIdx_cons, List.foldl_cons]
  have e : (pre ++ (m :: mid ++ post)).toArray.setIfInBounds (off + k) c = ((pre ++ [c]) ++ (mid ++ post)).toArray := by
   rw [List.setIfInBounds_toArray, ← hp, q146 _ _ (q102 _), q152]
   simp
  show (new.zipIdx (k + 1)).foldl _ ((pre ++ (m :: mid ++ post)).toArray.setIfInBounds (off + k) c) = _
  rw [e, fold_lay off post new mid (pre ++ [c]) (k + 1) (by simpa using h) (by simp [hp]; omega)]
  simp
theorem zfj {place : Nat → Option (Nat × Nat)} {i off n : Nat} {pre mid post new : List Value} {rest : List (Nat × Value)} (hp : place i = some (off, n)) (hl : pre.length = off) (hm : mid.length = n) (hn : new.length = n) :
  Instr.fill place (pre ++ (mid ++ post)).toArray ((i, .agg new.toArray) :: rest) = Instr.fill place (pre ++ (new ++ post)).toArray rest := by
 have e : (new.toArray.zipIdx.foldl (fun (cs : Array Value) (x : Value × Nat) => cs.setIfInBounds (off + x.2) x.1) (pre ++ (mid ++ post)).toArray) = (pre ++ (new ++ post)).toArray := by
  rw [← fold_lay off post new mid pre 0 (by rw [hn, hm]) (by rw [hl]; rfl), ← Array.foldl_toList, Array.toList_zipIdx]
 rw [Instr.fill, hp]
 have h1 : (Value.cells (.agg new.toArray)).size = n := by simpa [Value.cells] using hn
 have h2 : ¬ (off + n > (pre ++ (mid ++ post)).toArray.size) := by simp [hl, hm]
 simp only [h1]
 rw [if_neg (by simp [h2]; simp at h2; omega)]
 exact congrArg (fun z => Instr.fill place z rest) e
theorem fill_four {place : Nat → Option (Nat × Nat)} (p0 : place 0 = some (0, 16)) (p1 : place 1 = some (16, 16)) (p2 : place 2 = some (32, 16)) (p3 : place 3 = some (48, 16)) (zero : Array Value) (hz : zero.size = 64) {a b c d : List Value} (ha : a.length = 16) (hb : b.length = 16) (hc : c.length = 16) (hd : d.length = 16) :
  Instr.fill place zero [(0, .agg a.toArray), (1, .agg b.toArray), (2, .agg c.toArray), (3, .agg d.toArray)] = some (a ++ (b ++ (c ++ d))).toArray := by
 obtain ⟨l, hl⟩ : ∃ l : List Value, zero = l.toArray ∧ l.length = 64 := ⟨zero.toList, by simp, by simpa using hz⟩
 obtain ⟨rfl, hl⟩ := hl
 have e0 : l = [] ++ (l.take 16 ++ ((l.drop 16).take 16 ++ ((l.drop 32).take 16 ++ l.drop 48))) := by
  rw [q118]
  have h3 : (l.drop 32).take 16 ++ l.drop 48 = l.drop 32 := by rw [show l.drop 48 = (l.drop 32).drop 16 by rw [q166], q117]
  have h2 : (l.drop 16).take 16 ++ l.drop 32 = l.drop 16 := by rw [show l.drop 32 = (l.drop 16).drop 16 by rw [q166], q117]
  rw [h3, h2, q117]
 have l0 : (l.take 16).length = 16 := by simp [hl]
 have l1 : ((l.drop 16).take 16).length = 16 := by simp [hl]
 have l2 : ((l.drop 32).take 16).length = 16 := by simp [hl]
 have l3 : (l.drop 48).length = 16 := by simp [hl]
 generalize l.take 16 = q0 at *
 generalize (l.drop 16).take 16 = q1 at *
 generalize (l.drop 32).take 16 = q2 at *
 generalize l.drop 48 = q3 at *
 rw [e0, zfj (off := 0) (n := 16) p0 rfl l0 ha]
 rw [show ([] : List Value) ++ (a ++ (q1 ++ (q2 ++ q3))) = a ++ (q1 ++ (q2 ++ q3)) from rfl, zfj (off := 16) (n := 16) p1 ha l1 hb]
 rw [show a ++ (b ++ (q2 ++ q3)) = (a ++ b) ++ (q2 ++ q3) by simp, zfj (off := 32) (n := 16) p2 (by simp [ha, hb]) l2 hc]
 rw [show (a ++ b) ++ (c ++ q3) = (a ++ b ++ c) ++ (q3 ++ []) by simp, zfj (off := 48) (n := 16) p3 (by simp [ha, hb, hc]) l3 hd]
 rw [Instr.fill]
 simp
theorem rng_mid {w : World} {c : Nat} {t : TypeId} {pre mid post : List Value} (h : Blk w c (pre ++ (mid ++ post)) t) {o : Nat} (ho : pre.length = o) : w.rangeAt c o mid := fun j v hj => by
 subst ho
 have hjl : j < mid.length := by
  rcases q116 j mid.length with h' | h'
  ·exact h'
  ·rw [List.getElem?_eq_none h'] at hj; cases hj
 rw [h.cell, List.getElem?_append_right (by omega), Nat.add_sub_cancel_left, List.getElem?_append_left hjl]
 exact hj
theorem zfo (w : World) (ks : List Value) (T : TypeId) : Blk (w.alloc (.cells ks.toArray T)) w.heap.size ks T ∧ Ext w (w.alloc (.cells ks.toArray T)) := ⟨Blk.made w ks T, Ext.alloc w _⟩
theorem zbf {P : Program} {w : World} {ops : Array Oper} {rest : List Oper} {o : Oper} {a : Act} {Q : Exit → Act → World → Prop} (hgd : o.guard = none) (ty : TypeId) (parts : Array (Nat × Operand)) (ho : o.op = .build ty parts)
  (vs : Array (Nat × Value)) (hp : parts.map (fun (i, x) => (i, a.eval x)) = vs) (v : Value) (hr : (Instr.build ty vs).run P w = .ok v w) (h : wpList P ops Q rest (a.put o.dst v) w) : wpList P ops Q (o :: rest) a w :=
 wpList_plain hgd fun _ hK => by
  subst hp
  unfold Oper.wp execOp
  simp only [ho, Sem.run_bind, hr, Result.andThen_ok, Sem.run_pure]
  exact hK _ _ h
theorem zfi {w w' : World} {b : Nat} {v : Value} {vs : List Value} (h : w.rangeAt b 0 (v :: vs)) (hb : Ext w w') : w'.rangeAt b 0 (v :: vs) := by
 have h0 := h 0 v rfl
 have hl : b < w.heap.size := by
  apply Classical.byContradiction
  intro hn
  have e : w.heap[b]? = none := by rw [Array.getElem?_eq_none]; omega
  simp [World.cell?, e] at h0
 intro j u hj
 have h1 := h j u hj
 have e := hb.block b hl
 simpa [World.cell?, e] using h1
def Far (c : Nat) (w w' : World) : Prop := ∃ wx, Ext w wx ∧ (w' = wx ∨ wx.grownBy w' (some c))
theorem zbl {c : Nat} {w w' : World} (h : Ext w w') : Far c w w' := ⟨w', h, Or.inl rfl⟩
theorem zcn {c : Nat} {w wx w' : World} (h : Ext w wx) (g : wx.grownBy w' (some c)) : Far c w w' := ⟨wx, h, Or.inr g⟩
theorem zba {c a : Nat} {w w' : World} {cs : List Value} {t : TypeId} (H : Blk w a cs t) (ha : c ≠ a) (h : Far c w w') : w'.rangeAt a 0 cs := by
 obtain ⟨wx, h1, h2⟩ := h
 rcases h2 with h2 | h2
 ·rw [h2]
  exact zah H h1
 ·exact ((zad H h1).grown h2 (by simp; omega)).range
def ElL (zs : List Int) (f : Fp) : Prop := zs.length = 16 ∧ ElF (.agg (ints .i64 zs).toArray) f
theorem ElF.toL {v : Value} {f : Fp} (h : ElF v f) : ∃ zs : List Int, v = .agg (ints .i64 zs).toArray ∧ ElL zs f := by
 obtain ⟨zs, rfl, hl⟩ := h.form
 exact ⟨zs, rfl, hl, h⟩
theorem ElL.el {zs : List Int} {f : Fp} (h : ElL zs f) : ElF (.agg (ints .i64 zs).toArray) f := h.2
theorem ElL.len {zs : List Int} {f : Fp} (h : ElL zs f) : zs.length = 16 := h.1
def ptC (a b c d : List Int) : List Value := ints .i64 a ++ (ints .i64 b ++ (ints .i64 c ++ ints .i64 d))
def PtZ (zx zy zz zt : List Int) (s : ES) : Prop := ElL zx s.x ∧ ElL zy s.y ∧ ElL zz s.z ∧ ElL zt s.t
theorem zca {a b c d : List Int} {s : ES} (h : PtZ a b c d s) : (ptC a b c d).length = 64 := by
 obtain ⟨h1, h2, h3, h4⟩ := h
 simp [ptC, zaa, h1.1, h2.1, h3.1, h4.1]
theorem zeo (a b c d : List Int) : ∀ v ∈ ptC a b c d, v.oneCell' = true := by
 intro v hv
 simp only [ptC, List.mem_append] at hv
 rcases hv with h | h | h | h
 ·exact zaj _ _ v h
 ·exact zaj _ _ v h
 ·exact zaj _ _ v h
 ·exact zaj _ _ v h
def PtV (v : Value) (s : ES) : Prop := ∃ a b c d, v = .agg (ptC a b c d).toArray ∧ PtZ a b c d s
def PtB (w : World) (g : Nat) (s : ES) : Prop := ∃ a b c d, Blk w g (ptC a b c d) 70 ∧ PtZ a b c d s
theorem PtB.ext {w w' : World} {g : Nat} {s : ES} (h : PtB w g s) (hb : Ext w w') : PtB w' g s := by
 obtain ⟨a, b, c, d, h1, h2⟩ := h
 exact ⟨a, b, c, d, zad h1 hb, h2⟩
theorem PtB.grown {w w' : World} {g r : Nat} {s : ES} (h : PtB w g s) (hg : w.grownBy w' (some r)) (hr : some r ≠ some g) : PtB w' g s := by
 obtain ⟨a, b, c, d, h1, h2⟩ := h
 exact ⟨a, b, c, d, h1.grown hg hr, h2⟩
theorem zcl {a b c d : List Int} {s : ES} (h : PtZ a b c d s) : (Tryz.prog.info? 70).map (·.size) = some (ptC a b c d).length := by
 rw [zca h]
 kernel_rfl
theorem rng_x {w : World} {g : Nat} {t : TypeId} {a b c d : List Int} (h : Blk w g (ptC a b c d) t) : w.rangeAt g 0 (ints .i64 a) := rng_mid (pre := []) h rfl
theorem rng_y {w : World} {g : Nat} {t : TypeId} {a b c d : List Int} (h : Blk w g (ptC a b c d) t) (ha : a.length = 16) : w.rangeAt g 16 (ints .i64 b) := rng_mid (pre := ints .i64 a) h (by rw [zaa, ha])
theorem rng_z {w : World} {g : Nat} {t : TypeId} {a b c d : List Int} (h : Blk w g (ptC a b c d) t) (ha : a.length = 16) (hb : b.length = 16) : w.rangeAt g 32 (ints .i64 c) :=
 rng_mid (pre := ints .i64 a ++ ints .i64 b) (mid := ints .i64 c) (post := ints .i64 d) (by simpa [ptC] using h) (by simp [zaa, ha, hb])
theorem rng_t {w : World} {g : Nat} {t : TypeId} {a b c d : List Int} (h : Blk w g (ptC a b c d) t) (ha : a.length = 16) (hb : b.length = 16) (hc : c.length = 16) : w.rangeAt g 48 (ints .i64 d) :=
 rng_mid (pre := ints .i64 a ++ ints .i64 b ++ ints .i64 c) (mid := ints .i64 d) (post := []) (by simpa [ptC] using h) (by simp [zaa, ha, hb, hc])
theorem build_pt {a b c d : List Int} {s : ES} (h : PtZ a b c d s) (w : World) :
  (Instr.build 70 #[(0, .agg (ints .i64 a).toArray), (1, .agg (ints .i64 b).toArray), (2, .agg (ints .i64 c).toArray), (3, .agg (ints .i64 d).toArray)]).run Tryz.prog w = .ok (.agg (ptC a b c d).toArray) w := by
 obtain ⟨h1, h2, h3, h4⟩ := h
 refine run_build w _ _ _ ?_
 have e := fill_four (place := fun i => (#[(0, 16), (16, 16), (32, 16), (48, 16)] : Array (Nat × Nat))[i]?) rfl rfl rfl rfl (ints .i64 (List.replicate 64 0)).toArray (by simp [zaa]) (a := ints .i64 a) (b := ints .i64 b) (c := ints .i64 c) (d := ints .i64 d) (by rw [zaa, h1.1]) (by rw [zaa, h2.1]) (by rw [zaa, h3.1]) (by rw [zaa, h4.1])
 refine Eq.trans ?_ e
 kernel_rfl
def dL : List Int := [30883, 4953, 19914, 30187, 55467, 16705, 2637, 112, 59544, 30585, 16505, 36039, 65139, 11119, 27886, 20995]
def bxL : List Int := [54554, 36645, 11616, 51542, 42930, 38181, 51040, 26924, 56412, 64982, 57905, 49316, 21502, 52590, 14035, 8553]
def byL : List Int := [26200, 26214, 26214, 26214, 26214, 26214, 26214, 26214, 26214, 26214, 26214, 26214, 26214, 26214, 26214, 26214]
def GlobD (w : World) : Prop := w.rangeAt 2 0 (ints .i64 dL)
def GlobX (w : World) : Prop := w.rangeAt 0 0 (ints .i64 bxL)
def GlobY (w : World) : Prop := w.rangeAt 1 0 (ints .i64 byL)
theorem GlobD.ext {w w' : World} (h : GlobD w) (hb : Ext w w') : GlobD w' := zfi h hb
theorem GlobX.ext {w w' : World} (h : GlobX w) (hb : Ext w w') : GlobX w' := zfi h hb
theorem GlobY.ext {w w' : World} (h : GlobY w) (hb : Ext w w') : GlobY w' := zfi h hb
theorem var_el {l : List Int} {x : Int} (hl : l.length = 16) (hb : ∀ z ∈ l, -131072 ≤ z ∧ z ≤ 131072) (h : pP ∣ dV l - x) : ElL l (fp x) :=
 ⟨hl, dV l, ⟨l, rfl, hl, hb, 0, by rw [Int.mul_zero, Int.add_zero]⟩, fp_eq.2 h⟩
theorem d_el : ElL dL dF := var_el rfl (by decide) (by decide +kernel)
theorem bx_el : ElL bxL (fp bX) := var_el rfl (by decide) (by decide +kernel)
theorem by_el : ElL byL (fp bY) := var_el rfl (by decide) (by decide +kernel)
theorem f_neg (a : Fp) : 0 - a = -a := by grind
theorem nbF_zer {f : Fp} (h : nbF f = zer) : f = 0 := by
 have h1 : leN (nbF f) = 0 := by rw [h, leN_zer]
 have h2 := zea 32 f.val
 have h3 : f.val < 256 ^ 32 := Nat.lt_trans f.isLt (by decide +kernel)
 unfold nbF at h1
 rw [h1, q120 h3] at h2
 exact Fin.ext h2.symm
theorem nbF_nought : nbF 0 = zer := by decide +kernel
def gV (B : Int) : List Int → Int
 | [] => 0
 | z :: r => z + B * gV B r
theorem gV_set (B : Int) : ∀ (zs : List Int) (i : Nat) (z : Int), i < zs.length → gV B (zs.set i z) = gV B zs + (z - zs.getD i 0) * B ^ i
 | [], i, z, h => by simp at h
 | a :: r, 0, z, h => by simp [gV]; omega
 | a :: r, i + 1, z, h => by
  have := gV_set B r i z (by simpa using h)
  simp only [List.set_cons_succ, gV, this, List.getD_cons_succ, q122]
  grind
theorem gV_append (B : Int) : ∀ (a b : List Int), gV B (a ++ b) = gV B a + B ^ a.length * gV B b
 | [], b => by simp [gV]
 | z :: r, b => by
  simp only [q170, gV, gV_append B r b, q126, q122]
  grind
theorem gV_cut (B : Int) (zs : List Int) (d : Nat) (h : d ≤ zs.length) : gV B zs = gV B (zs.take d) + B ^ d * gV B (zs.drop d) := by
 have := gV_append B (zs.take d) (zs.drop d)
 rw [q117, q112, q158 h] at this
 exact this
theorem zcc (B : Int) (zs : List Int) (k : Nat) (h : k < zs.length) : gV B (zs.take (k + 1)) = gV B (zs.take k) + zs.getD k 0 * B ^ k := by
 rw [q159 h, gV_append, q112, q158 (by omega)]
 simp only [gV, List.getD, List.getElem?_eq_getElem h, Option.getD_some]
 grind
theorem gV_zeros (B : Int) : ∀ (n : Nat), gV B (List.replicate n 0) = 0
 | 0 => rfl
 | n + 1 => by simp [List.replicate_succ, gV, gV_zeros B n]
theorem gV_zero_of (B : Int) : ∀ {zs : List Int}, (∀ i, zs.getD i 0 = 0) → gV B zs = 0
 | [], _ => rfl
 | z :: r, h => by
  have h0 : z = 0 := h 0
  have h1 := gV_zero_of B (zs := r) (fun i => by have := h (i + 1); simpa using this)
  simp [gV, h0, h1]
theorem gV_range {B : Int} (hB : 0 < B) : ∀ {zs : List Int}, (∀ i, i < zs.length → 0 ≤ zs.getD i 0 ∧ zs.getD i 0 < B) → 0 ≤ gV B zs ∧ gV B zs < B ^ zs.length
 | [], _ => by simp [gV]
 | z :: r, h => by
  have h0 : 0 ≤ z ∧ z < B := h 0 (by simp)
  have h1 := gV_range hB (zs := r) (fun i hi => by have := h (i + 1) (by simpa using hi); simpa using this)
  obtain ⟨p1, p2⟩ := h1
  have q1 : 0 ≤ B * gV B r := q151 (by omega) p1
  have q2 : B * (gV B r + 1) ≤ B * B ^ r.length := Int.mul_le_mul_of_nonneg_left (by omega) (by omega)
  rw [Int.mul_add, Int.mul_one] at q2
  simp only [gV, q126, q122]
  rw [Int.mul_comm (B ^ r.length) B]
  omega
theorem gV_inj {B : Int} (hB : 0 < B) : ∀ {xs ys : List Int}, xs.length = ys.length → (∀ i, i < xs.length → 0 ≤ xs.getD i 0 ∧ xs.getD i 0 < B) → (∀ i, i < ys.length → 0 ≤ ys.getD i 0 ∧ ys.getD i 0 < B) → gV B xs = gV B ys → xs = ys
 | [], [], _, _, _, _ => rfl
 | [], _ :: _, h, _, _, _ => by simp at h
 | _ :: _, [], h, _, _, _ => by simp at h
 | x :: r, y :: s, hl, h1, h2, he => by
  have a1 : 0 ≤ x ∧ x < B := h1 0 (by simp)
  have a2 : 0 ≤ y ∧ y < B := h2 0 (by simp)
  simp only [gV] at he
  have e1 : (x + B * gV B r) % B = x := by rw [Int.add_mul_emod_self_left, q171 a1.1 a1.2]
  have e2 : (y + B * gV B s) % B = y := by rw [Int.add_mul_emod_self_left, q171 a2.1 a2.2]
  have e3 : x = y := by rw [← e1, ← e2, he]
  subst e3
  have e4 : gV B r = gV B s := Int.eq_of_mul_eq_mul_left (by omega : B ≠ 0) (by omega)
  rw [gV_inj hB (by simpa using hl) (fun i hi => by have := h1 (i + 1) (by simpa using hi); simpa using this) (fun i hi => by have := h2 (i + 1) (by simpa using hi); simpa using this) e4]
theorem getD_eq {zs : List Int} {i : Nat} (h : i < zs.length) : zs.getD i 0 = zs[i] := by simp [List.getD, h]
theorem getD_out {zs : List Int} {i : Nat} (h : zs.length ≤ i) : zs.getD i 0 = 0 := by simp [List.getD, h]
theorem getD_take {zs : List Int} {i d : Nat} (h : i < d) : (zs.take d).getD i 0 = zs.getD i 0 := by simp [List.getD, List.getElem?_take, h]
theorem zeg {zs : List Int} {i d : Nat} : (zs.drop d).getD i 0 = zs.getD (d + i) 0 := by simp [List.getD, List.getElem?_drop]
theorem ext_getD {xs ys : List Int} (hl : xs.length = ys.length) (h : ∀ i, i < xs.length → xs.getD i 0 = ys.getD i 0) : xs = ys := by
 apply List.ext_getElem hl
 intro i h1 h2
 have := h i h1
 rwa [getD_eq h1, getD_eq h2] at this
theorem take_eq {xs ys : List Int} {d : Nat} (hl : xs.length = ys.length) (hd : d ≤ xs.length) (h : ∀ i, i < d → xs.getD i 0 = ys.getD i 0) : xs.take d = ys.take d := by
 apply ext_getD (by simp [hl])
 intro i hi
 have hi2 : i < d := by simp at hi; omega
 rw [getD_take hi2, getD_take hi2, h i hi2]
theorem gV_div {B : Int} (hB : 0 < B) {zs : List Int} {d : Nat} (hd : d ≤ zs.length) (h : ∀ i, i < d → 0 ≤ zs.getD i 0 ∧ zs.getD i 0 < B) : gV B zs / B ^ d = gV B (zs.drop d) := by
 have hr := gV_range hB (zs := zs.take d) (fun i hi => by
  have hi2 : i < d := by simp at hi; omega
  rw [getD_take hi2]
  exact h i hi2)
 rw [q112, q158 hd] at hr
 have hp : 0 < B ^ d := Int.pow_pos hB
 rw [gV_cut B zs d hd, Int.add_mul_ediv_left _ _ (by omega), Int.ediv_eq_zero_of_lt hr.1 hr.2, Int.zero_add]
theorem Blk.seti {w : World} {c : Nat} {k : IntKind} {zs : List Int} {t : TypeId} (h : Blk w c (ints k zs) t) (i : Nat) (z : Int) : Blk (w.setCell ⟨c, i, none⟩ (.int k z)) c (ints k (zs.set i z)) t := by
 rw [← zbq]
 exact h.set i _
def dig (n x : Nat) : List Int := (bytesN n x).map fun b => (b.toNat : Int)
theorem zdh (n x : Nat) : (dig n x).length = n := by simp [dig, zav]
theorem gV_bytes : ∀ (l : List UInt8), gV 256 (l.map fun b => (b.toNat : Int)) = (leN l : Nat)
 | [] => rfl
 | b :: r => by
  simp only [q153, gV, gV_bytes r, leN]
  omega
theorem gV_dig (n x : Nat) : gV 256 (dig n x) = ((x % 256 ^ n : Nat) : Int) := by
 unfold dig
 rw [gV_bytes, zea]
theorem byte_digits (l : List UInt8) : ∀ i, i < (l.map fun b => (b.toNat : Int)).length → 0 ≤ (l.map fun b => (b.toNat : Int)).getD i 0 ∧ (l.map fun b => (b.toNat : Int)).getD i 0 < 256 := by
 intro i hi
 have hi2 : i < l.length := by simpa using hi
 rw [getD_eq hi, List.getElem_map]
 have := l[i].toNat_lt
 omega
theorem dig_digits (n x : Nat) : ∀ i, i < n → 0 ≤ (dig n x).getD i 0 ∧ (dig n x).getD i 0 < 256 := by
 intro i hi
 exact byte_digits (bytesN n x) i (by simp [zav, hi])
theorem dig_of {zs : List Int} {n x : Nat} (hl : zs.length = n) (h : ∀ i, i < n → 0 ≤ zs.getD i 0 ∧ zs.getD i 0 < 256) (hv : gV 256 zs = (x : Int)) : zs = dig n x := by
 have hr := gV_range (B := 256) (by omega) (zs := zs) (fun i hi => h i (by omega))
 have hx : x < 256 ^ n := by
  have h1 := hr.2
  rw [hv, hl] at h1
  have e : ((256 : Int) ^ n) = ((256 ^ n : Nat) : Int) := by simp
  rw [e] at h1
  omega
 refine gV_inj (B := 256) (by omega) (by rw [zdh, hl]) (fun i hi => h i (by omega)) (fun i hi => dig_digits n x i (by rwa [zdh] at hi)) ?_
 rw [gV_dig, q120 hx, hv]
theorem zdd : ∀ (n x i : Nat), i < n → ((bytesN n x).getD i 0).toNat = x / 256 ^ i % 256
 | 0, _, _, h => by omega
 | n + 1, x, 0, _ => by
  simp only [bytesN, List.getD_cons_zero, Nat.pow_zero, Nat.div_one]
  rw [UInt8.toNat_ofNat']
  omega
 | n + 1, x, i + 1, h => by
  simp only [bytesN, List.getD_cons_succ]
  rw [zdd n (x / 256) i (by omega), q177, q128, q129 256]
def fill (n : Nat) (l : List UInt8) (k : Nat) : List UInt8 := l.take k ++ List.replicate (n - k) 0
theorem fill_zero (n : Nat) (l : List UInt8) : fill n l 0 = List.replicate n 0 := by simp [fill]
theorem fill_full {n : Nat} {l : List UInt8} (h : l.length = n) : fill n l n = l := by simp [fill, ← h]
theorem fill_length {n k : Nat} {l : List UInt8} (h : l.length = n) (hk : k ≤ n) : (fill n l k).length = n := by simp [fill]; omega
theorem fill_set {n k : Nat} {l : List UInt8} (h : l.length = n) (hk : k < n) : (fill n l k).set k (l.getD k 0) = fill n l (k + 1) := by
 unfold fill
 have e1 : (l.take k).length = k := by simp; omega
 have e2 : n - k = (n - (k + 1)) + 1 := by omega
 have hk2 : k < l.length := by omega
 have e3 : l.getD k 0 = l[k] := by simp [List.getD, hk2]
 rw [q146 _ _ (by omega), e1, q152, e2, List.replicate_succ, List.set_cons_zero, e3, q159 hk2, q137]
 rfl
theorem zex {n k : Nat} {l : List UInt8} (h : l.length = n) (hk : k < n) {z : Int} (hz : z = ((l.getD k 0).toNat : Int)) : ((fill n l k).map bval).set k (.int .u8 z) = (fill n l (k + 1)).map bval := by
 subst hz
 have : Value.int .u8 ((l.getD k 0).toNat : Int) = bval (l.getD k 0) := rfl
 rw [this, ← q127, fill_set h hk]
theorem fill_start (n : Nat) (l : List UInt8) : (fill n l 0).map bval = ints .u8 (List.replicate n 0) := by
 rw [fill_zero]
 simp [ints, bval]
theorem or_i64 (a b : Nat) (ha : a < 9223372036854775808) (hb : b < 9223372036854775808) : bits .or .i64 (a : Int) (b : Int) = ((a ||| b : Nat) : Int) := by
 have e1 : (BitVec.ofInt 64 (a : Int)).toNat = a := by rw [BitVec.toNat_ofInt]; omega
 have e2 : (BitVec.ofInt 64 (b : Int)).toNat = b := by rw [BitVec.toNat_ofInt]; omega
 show IntKind.i64.wrap ((BitVec.ofInt 64 (a : Int) ||| BitVec.ofInt 64 (b : Int)).toNat : Nat) = _
 have e3 : a ||| b < 2 ^ 63 := Nat.or_lt_two_pow ha hb
 rw [BitVec.toNat_or, e1, e2, IntKind.wrap_i64]
 omega
theorem and_i64_255 (a : Int) (h1 : -9223372036854775808 ≤ a) (h2 : a ≤ 9223372036854775807) : bits .and .i64 a 255 = a % 256 := by
 have h : (BitVec.ofInt 64 255).toNat = 2 ^ 8 - 1 := by decide
 have key : (BitVec.ofInt 64 a &&& BitVec.ofInt 64 255).toNat = (a % ((2 ^ 64 : Nat) : Int)).toNat % 2 ^ 8 := by
  rw [BitVec.toNat_and, BitVec.toNat_ofInt, h, q145]
 show IntKind.i64.wrap ((BitVec.ofInt 64 a &&& BitVec.ofInt 64 255).toNat : Nat) = _
 rw [key, IntKind.wrap_i64]
 omega
theorem and_i64_1 (a : Int) (h1 : -9223372036854775808 ≤ a) (h2 : a ≤ 9223372036854775807) : bits .and .i64 a 1 = a % 2 := by
 have h : (BitVec.ofInt 64 1).toNat = 2 ^ 1 - 1 := by decide
 have key : (BitVec.ofInt 64 a &&& BitVec.ofInt 64 1).toNat = (a % ((2 ^ 64 : Nat) : Int)).toNat % 2 ^ 1 := by
  rw [BitVec.toNat_and, BitVec.toNat_ofInt, h, q145]
 show IntKind.i64.wrap ((BitVec.ofInt 64 a &&& BitVec.ofInt 64 1).toNat : Nat) = _
 rw [key, IntKind.wrap_i64]
 omega
theorem leN_byteL (l : List UInt8) (i : Nat) (h : i < l.length) : (l.getD i 0).toNat = leN l / 256 ^ i % 256 := by
 have e := zfa l
 have h2 := zdd l.length (leN l) i h
 rw [e] at h2
 exact h2
theorem leN_top {l : List UInt8} (h : l.length = 32) (ht : (l.getD 31 0).toNat < 128) : leN l < 2 ^ 255 := by
 have h1 := leN_byteL l 31 (by omega)
 have h2 := leN_lt l
 rw [h] at h2
 have e : (256 : Nat) ^ 32 = 256 ^ 31 * 256 := by decide +kernel
 have h3 : leN l / 256 ^ 31 < 256 := (Nat.div_lt_iff_lt_mul (by decide)).2 (by rw [q129, ← e]; exact h2)
 rw [q120 h3] at h1
 rw [h1] at ht
 have h4 := (Nat.div_lt_iff_lt_mul (by decide)).1 ht
 have e2 : (128 : Nat) * 256 ^ 31 = 2 ^ 255 := by decide +kernel
 rw [e2] at h4
 exact h4
theorem u8_mask (b : UInt8) (h : b.toNat < 128) : b &&& 127 = b := by
 have hh : ∀ n : Fin 128, (UInt8.ofNat n.val) &&& 127 = UInt8.ofNat n.val := by decide +kernel
 have := hh ⟨b.toNat, h⟩
 simpa using this
theorem mask_id {l : List UInt8} (h : l.length = 32) (ht : (l.getD 31 0).toNat < 128) : maskB l = l := by
 unfold maskB
 rw [u8_mask _ ht]
 apply List.ext_getElem?
 intro i
 rw [List.getElem?_set]
 split
 ·rename_i e
  subst e
  rw [List.getD_eq_getElem?_getD, List.getElem?_eq_getElem (by omega)]
  simp [h]
 ·rfl
theorem nbF_top (f : Fp) : ((nbF f).getD 31 0).toNat < 128 := by
 unfold nbF
 rw [zdd 32 f.val 31 (by omega)]
 have h1 := f.isLt
 have h2 : f.val < 2 ^ 255 := Nat.lt_trans h1 (by decide +kernel)
 have e2 : (2 : Nat) ^ 255 = 128 * 256 ^ 31 := by decide +kernel
 rw [e2] at h2
 have h3 := (Nat.div_lt_iff_lt_mul (by decide : 0 < 256 ^ 31)).2 h2
 omega
abbrev Q64 := BitVec 64
def qi (b : Q64) : Int := (b.toNat : Int)
theorem qi_range (b : Q64) : 0 ≤ qi b ∧ qi b ≤ 18446744073709551615 := by
 have := b.isLt
 unfold qi
 omega
theorem ofInt_qi (b : Q64) : BitVec.ofInt 64 (qi b) = b := by
 unfold qi
 apply BitVec.eq_of_toNat_eq
 have := b.isLt
 rw [BitVec.toNat_ofInt]
 omega
theorem wrap_natq (n : Nat) : IntKind.u64.wrap (n : Int) = ((n % 18446744073709551616 : Nat) : Int) := by rw [IntKind.wrap_u64]; omega
theorem qi_lit (n : Nat) (h : n < 18446744073709551616) : qi (BitVec.ofNat 64 n) = (n : Int) := by
 unfold qi
 rw [BitVec.toNat_ofNat]
 omega
theorem zcy (a b : Q64) : IntKind.u64.wrap (qi a + qi b) = qi (a + b) := by
 unfold qi
 rw [← Int.natCast_add, wrap_natq, BitVec.toNat_add]
theorem qi_and (a b : Q64) : bits .and .u64 (qi a) (qi b) = qi (a &&& b) := by
 show IntKind.u64.wrap ((BitVec.ofInt 64 (qi a) &&& BitVec.ofInt 64 (qi b)).toNat : Nat) = _
 rw [ofInt_qi, ofInt_qi, wrap_natq, q120 (a &&& b).isLt]
 rfl
theorem qi_or (a b : Q64) : bits .or .u64 (qi a) (qi b) = qi (a ||| b) := by
 show IntKind.u64.wrap ((BitVec.ofInt 64 (qi a) ||| BitVec.ofInt 64 (qi b)).toNat : Nat) = _
 rw [ofInt_qi, ofInt_qi, wrap_natq, q120 (a ||| b).isLt]
 rfl
theorem zed (a b : Q64) : bits .xor .u64 (qi a) (qi b) = qi (a ^^^ b) := by
 show IntKind.u64.wrap ((BitVec.ofInt 64 (qi a) ^^^ BitVec.ofInt 64 (qi b)).toNat : Nat) = _
 rw [ofInt_qi, ofInt_qi, wrap_natq, q120 (a ^^^ b).isLt]
 rfl
theorem qi_shr (a : Q64) (n : Nat) : qi a / 2 ^ n = qi (a >>> n) := by
 unfold qi
 rw [BitVec.toNat_ushiftRight, Nat.shiftRight_eq_div_pow]
 simp
theorem qi_shl (a : Q64) (n : Nat) : IntKind.u64.wrap (qi a * 2 ^ n) = qi (a <<< n) := by
 unfold qi
 have e : ((a.toNat : Int) * 2 ^ n) = ((a.toNat * 2 ^ n : Nat) : Int) := by simp
 rw [e, wrap_natq, BitVec.toNat_shiftLeft, Nat.shiftLeft_eq]
def rotq (a : Q64) (n : Nat) : Q64 := a >>> n ||| a <<< (64 - n)
theorem qi_rotq (a : Q64) (n : Nat) : bits .or .u64 (qi a / 2 ^ n) (IntKind.u64.wrap (qi a * 2 ^ (64 - n))) = qi (rotq a n) := by
 rw [qi_shr, qi_shl, qi_or]
 rfl
def qs (l : List Q64) : List Int := l.map qi
theorem zay (l : List Q64) : (qs l).length = l.length := by simp [qs]
theorem zen (l : List Q64) (i : Nat) : (qs l).getD i 0 = qi (l.getD i 0#64) := by
 unfold qs
 simp only [List.getD, List.getElem?_map]
 cases l[i]? <;> simp [qi]
theorem qs_set (l : List Q64) (i : Nat) (b : Q64) : (qs l).set i (qi b) = qs (l.set i b) := by
 unfold qs
 rw [q127]
theorem qs_zeros (n : Nat) : qs (List.replicate n 0#64) = List.replicate n 0 := by simp [qs, qi]
abbrev W32 := BitVec 32
def wi (b : W32) : Int := (b.toNat : Int)
def ws (l : List W32) : List Int := l.map wi
def beB : Nat → Nat → List UInt8
 | 0, _ => []
 | k + 1, n => UInt8.ofNat (n / 256 ^ k % 256) :: beB k n
theorem beB_length : ∀ k n, (beB k n).length = k
 | 0, _ => rfl
 | k + 1, n => by simp [beB, beB_length k n]
def beN (m : List UInt8) (k : Nat) : Nat → Nat
 | 0 => 0
 | n + 1 => 256 * beN m k n + (m.getD (k + n) 0).toNat
theorem beN_lt (m : List UInt8) (k : Nat) : ∀ n, beN m k n < 256 ^ n
 | 0 => by simp [beN]
 | n + 1 => by
  have h1 := beN_lt m k n
  have h2 := (m.getD (k + n) 0).toNat_lt
  simp only [beN, q128]
  omega
def beQ (m : List UInt8) (k : Nat) : Q64 := BitVec.ofNat 64 (beN m k 8)
def qTop (m : List UInt8) (start : Nat) : Nat → List Q64
 | 0 => List.replicate 80 0#64
 | k + 1 => (qTop m start k).set k (beQ m (start + 8 * k))
def tg0 (x : Q64) : Q64 := rotq x 1 ^^^ rotq x 8 ^^^ x >>> 7
def tg1 (x : Q64) : Q64 := rotq x 19 ^^^ rotq x 61 ^^^ x >>> 6
def qNext (l : List Q64) (i : Nat) : Q64 := l.getD (i - 16) 0#64 + tg0 (l.getD (i - 15) 0#64) + l.getD (i - 7) 0#64 + tg1 (l.getD (i - 2) 0#64)
def qSch (m : List UInt8) (start : Nat) : Nat → List Q64
 | 0 => qTop m start 16
 | n + 1 => (qSch m start n).set (16 + n) (qNext (qSch m start n) (16 + n))
theorem qTop_length (m : List UInt8) (start : Nat) : ∀ k, (qTop m start k).length = 80
 | 0 => by simp [qTop]
 | k + 1 => by simp [qTop, qTop_length m start k]
theorem zdj (m : List UInt8) (start : Nat) : ∀ k, (qSch m start k).length = 80
 | 0 => qTop_length m start 16
 | k + 1 => by simp [qSch, zdj m start k]
def rndq (v : List Q64) (k w : Q64) : List Q64 :=
 let e := v.getD 4 0#64
 let a := v.getD 0 0#64
 let t := v.getD 7 0#64 + (rotq e 14 ^^^ rotq e 18 ^^^ rotq e 41) + (e &&& v.getD 5 0#64 ^^^ ~~~e &&& v.getD 6 0#64) + k + w
 let u := (rotq a 28 ^^^ rotq a 34 ^^^ rotq a 39) + (a &&& v.getD 1 0#64 ^^^ a &&& v.getD 2 0#64 ^^^ v.getD 1 0#64 &&& v.getD 2 0#64)
 [t + u, a, v.getD 1 0#64, v.getD 2 0#64, v.getD 3 0#64 + t, e, v.getD 5 0#64, v.getD 6 0#64]
def K512 : List Q64 := [0x428a2f98d728ae22, 0x7137449123ef65cd, 0xb5c0fbcfec4d3b2f, 0xe9b5dba58189dbbc, 0x3956c25bf348b538, 0x59f111f1b605d019, 0x923f82a4af194f9b, 0xab1c5ed5da6d8118, 0xd807aa98a3030242, 0x12835b0145706fbe, 0x243185be4ee4b28c, 0x550c7dc3d5ffb4e2, 0x72be5d74f27b896f, 0x80deb1fe3b1696b1, 0x9bdc06a725c71235, 0xc19bf174cf692694, 0xe49b69c19ef14ad2, 0xefbe4786384f25e3, 0x0fc19dc68b8cd5b5, 0x240ca1cc77ac9c65, 0x2de92c6f592b0275, 0x4a7484aa6ea6e483, 0x5cb0a9dcbd41fbd4, 0x76f988da831153b5, 0x983e5152ee66dfab, 0xa831c66d2db43210, 0xb00327c898fb213f, 0xbf597fc7beef0ee4, 0xc6e00bf33da88fc2, 0xd5a79147930aa725, 0x06ca6351e003826f, 0x142929670a0e6e70, 0x27b70a8546d22ffc, 0x2e1b21385c26c926, 0x4d2c6dfc5ac42aed, 0x53380d139d95b3df, 0x650a73548baf63de, 0x766a0abb3c77b2a8, 0x81c2c92e47edaee6, 0x92722c851482353b, 0xa2bfe8a14cf10364, 0xa81a664bbc423001, 0xc24b8b70d0f89791, 0xc76c51a30654be30, 0xd192e819d6ef5218, 0xd69906245565a910, 0xf40e35855771202a, 0x106aa07032bbd1b8, 0x19a4c116b8d2d0c8, 0x1e376c085141ab53, 0x2748774cdf8eeb99, 0x34b0bcb5e19b48a8, 0x391c0cb3c5c95a63, 0x4ed8aa4ae3418acb, 0x5b9cca4f7763e373, 0x682e6ff3d6b2b8a3, 0x748f82ee5defb2fc, 0x78a5636f43172f60, 0x84c87814a1f0ab72, 0x8cc702081a6439ec, 0x90befffa23631e28, 0xa4506cebde82bde9, 0xbef9a3f7b2c67915, 0xc67178f2e372532b, 0xca273eceea26619c, 0xd186b8c721c0c207, 0xeada7dd6cde0eb1e, 0xf57d4f7fee6ed178, 0x06f067aa72176fba, 0x0a637dc5a2c898a6, 0x113f9804bef90dae, 0x1b710b35131c471b, 0x28db77f523047d84, 0x32caab7b40c72493, 0x3c9ebe0a15c9bebc, 0x431d67c49c100d4c, 0x4cc5d4becb3e42b6, 0x597f299cfc657e2a, 0x5fcb6fab3ad6faec, 0x6c44198c4a475817]
def H512 : List Q64 := [0x6a09e667f3bcc908, 0xbb67ae8584caa73b, 0x3c6ef372fe94f82b, 0xa54ff53a5f1d36f1, 0x510e527fade682d1, 0x9b05688c2b3e6c1f, 0x1f83d9abfb41bd6b, 0x5be0cd19137e2179]
def qRun (h w : List Q64) : Nat → List Q64
 | 0 => h
 | i + 1 => rndq (qRun h w i) (K512.getD i 0#64) (w.getD i 0#64)
theorem qRun_length (h w : List Q64) (hh : h.length = 8) : ∀ i, (qRun h w i).length = 8
 | 0 => hh
 | i + 1 => rfl
def qAdd (h v : List Q64) : Nat → List Q64
 | 0 => h
 | k + 1 => (qAdd h v k).set k ((qAdd h v k).getD k 0#64 + v.getD k 0#64)
theorem qAdd_length (h v : List Q64) : ∀ k, (qAdd h v k).length = h.length
 | 0 => rfl
 | k + 1 => by simp [qAdd, qAdd_length h v k]
def gRun (m : List UInt8) : Nat → List Q64
 | 0 => H512
 | n + 1 => qAdd (gRun m n) (qRun (gRun m n) (qSch m (128 * n) 64) 80) 8
theorem zdc (m : List UInt8) : ∀ n, (gRun m n).length = 8
 | 0 => rfl
 | n + 1 => by rw [gRun, qAdd_length, zdc m n]
def padQ (n : Nat) : Nat := (239 - n % 128) % 128
def paddedQ (b : List UInt8) : List UInt8 := b ++ [128] ++ List.replicate (padQ b.length) 0 ++ beB 16 (8 * b.length)
theorem paddedQ_length (b : List UInt8) : (paddedQ b).length = 128 * ((b.length + 144) / 128) := by
 simp only [paddedQ, padQ, q108, q133, beB_length, q126, q160]
 omega
def outQ (h : List Q64) : List UInt8 := (List.range 64).map fun i => UInt8.ofNat ((h.getD (i / 8) 0#64).toNat / 2 ^ (56 - 8 * (i % 8)) % 256)
theorem outQ_length (h : List Q64) : (outQ h).length = 64 := by simp [outQ]
def sha512 (b : List UInt8) : List UInt8 := outQ (gRun (paddedQ b) ((b.length + 144) / 128))
theorem zbx (b : List UInt8) : (sha512 b).length = 64 := outQ_length _
def qQ : Int := 7237005577332262213973186563042994240857116359379907606001950938285454250989
def tT : Int := 27742317777372353535851937790883648493
theorem qQ_pos : 0 < qQ := by unfold qQ; omega
def cStep (x : List Int) (i : Nat) : List Int := (x.set (i + 1) (x.getD (i + 1) 0 + x.getD i 0 / 268435456)).set i (x.getD i 0 % 268435456)
def cRun (x : List Int) (f : Nat) : Nat → List Int
 | 0 => x
 | n + 1 => cStep (cRun x f n) (f + n)
structure CR (x y : List Int) (f n : Nat) (B : Int) : Prop where
 len : y.length = x.length
 val : gV 268435456 y = gV 268435456 x
 low : ∀ j, j < f → y.getD j 0 = x.getD j 0
 mid : ∀ j, f ≤ j → j < f + n → 0 ≤ y.getD j 0 ∧ y.getD j 0 < 268435456
 here : -(B + B / 32768 + 2) ≤ y.getD (f + n) 0 ∧ y.getD (f + n) 0 ≤ B + B / 32768 + 2
 high : ∀ j, f + n < j → y.getD j 0 = x.getD j 0
theorem cStep_spec {x y : List Int} {f n : Nat} {B : Int} (h : CR x y f n B) (hn : f + n + 1 < x.length) (h0 : 0 ≤ B) (hB : -B ≤ x.getD (f + n + 1) 0 ∧ x.getD (f + n + 1) 0 ≤ B) : CR x (cStep y (f + n)) f (n + 1) B := by
 obtain ⟨h1, h2, h3, h4, h5, h6⟩ := h
 have hi := h6 (f + n + 1) (by omega)
 unfold cStep
 refine ⟨by simp [h1], ?_, fun j hj => ?_, fun j hj hj2 => ?_, ?_, fun j hj => ?_⟩
 ·rw [gV_set _ _ _ _ (by simp; omega), gV_set _ _ _ _ (by omega), zag (by omega), h2, q122]
  have e := Int.mul_ediv_add_emod (y.getD (f + n) 0) 268435456
  generalize (268435456 : Int) ^ (f + n) = X
  generalize y.getD (f + n) 0 / 268435456 = a at *
  generalize y.getD (f + n) 0 % 268435456 = b at *
  rw [← e]
  grind
 ·rw [zag (by omega), zag (by omega)]
  exact h3 j hj
 ·by_cases e : j = f + n
  ·subst e
   rw [zal (by simp; omega)]
   omega
  ·rw [zag (by omega), zag (by omega)]
   exact h4 j hj (by omega)
 ·rw [show f + (n + 1) = f + n + 1 from rfl, zag (by omega), zal (by omega), hi]
  omega
 ·rw [zag (by omega), zag (by omega)]
  exact h6 j (by omega)
theorem cRun_spec (x : List Int) (f : Nat) (B : Int) (h0 : 0 ≤ B) : ∀ n, f + n < x.length → (∀ j, f ≤ j → j ≤ f + n → -B ≤ x.getD j 0 ∧ x.getD j 0 ≤ B) → CR x (cRun x f n) f n B
 | 0, hn, hB => ⟨rfl, rfl, fun j _ => rfl, fun j _ _ => by omega, by have := hB f (by omega) (by omega); simp only [cRun, Nat.add_zero]; omega, fun j _ => rfl⟩
 | n + 1, hn, hB => cStep_spec (cRun_spec x f B h0 n (by omega) (fun j h1 h2 => hB j h1 (by omega))) hn h0 (hB (f + n + 1) (by omega) (by omega))
def lStep (x : List Int) (i : Nat) (b : Nat) : List Int := x.set (8 * i / 28) (x.getD (8 * i / 28) 0 + (b : Int) * 2 ^ (8 * i % 28))
def lRun (l : List UInt8) : Nat → List Int
 | 0 => List.replicate 19 0
 | k + 1 => lStep (lRun l k) k (l.getD k 0).toNat
theorem zdu (l : List UInt8) : ∀ k, (lRun l k).length = 19
 | 0 => by simp [lRun]
 | k + 1 => by simp [lRun, lStep, zdu l k]
theorem pow28 (s : Nat) (h : s < 28) : (2 : Int) ^ s ≤ 134217728 ∧ 0 < (2 : Int) ^ s := by
 have h1 : (2 : Int) ^ s ≤ 2 ^ 27 := by
  have : (2 : Nat) ^ s ≤ 2 ^ 27 := q178 (by omega) (by omega)
  have e : ((2 : Int) ^ s) = ((2 ^ s : Nat) : Int) := by simp
  have e2 : ((2 : Int) ^ 27) = ((2 ^ 27 : Nat) : Int) := by simp
  rw [e, e2]
  omega
 exact ⟨by simpa using h1, Int.pow_pos (by omega)⟩
theorem byte_pow (b s : Nat) (hb : b < 256) (h : s < 28) : 0 ≤ (b : Int) * 2 ^ s ∧ (b : Int) * 2 ^ s ≤ 34225520640 := by
 obtain ⟨h1, h2⟩ := pow28 s h
 refine ⟨q151 (by omega) (by omega), ?_⟩
 exact Int.le_trans (Int.mul_le_mul (show (b : Int) ≤ 255 by omega) h1 (by omega) (by omega)) (by omega)
theorem lRun_range (l : List UInt8) : ∀ k, k ≤ 64 → ∀ j, 0 ≤ (lRun l k).getD j 0 ∧ (lRun l k).getD j 0 ≤ (k : Int) * 34225520640
 | 0, _, j => by
  simp only [lRun, List.getD, List.getElem?_replicate]
  split <;> simp
 | k + 1, hk, j => by
  have ih := lRun_range l k (by omega)
  have hb := byte_pow (l.getD k 0).toNat (8 * k % 28) (UInt8.toNat_lt _) (by omega)
  simp only [lRun, lStep]
  by_cases e : 8 * k / 28 = j
  ·subst e
   rw [zal (by rw [zdu]; omega)]
   have := ih (8 * k / 28)
   omega
  ·rw [zag e]
   have := ih j
   omega
theorem leN_take_succ : ∀ (l : List UInt8) (k : Nat), k < l.length → leN (l.take (k + 1)) = leN (l.take k) + (l.getD k 0).toNat * 256 ^ k
 | [], k, h => by simp at h
 | b :: r, 0, h => by simp [leN]
 | b :: r, k + 1, h => by
  have := leN_take_succ r k (by simpa using h)
  simp only [List.take_succ_cons, leN, List.getD_cons_succ, q128] at this ⊢
  rw [this]
  grind
theorem pow_split (k : Nat) : (268435456 : Int) ^ (8 * k / 28) * 2 ^ (8 * k % 28) = 256 ^ k := by
 have e1 : (268435456 : Int) = 2 ^ 28 := by omega
 have e2 : (256 : Int) = 2 ^ 8 := by omega
 rw [e1, e2, ← Int.pow_mul, ← Int.pow_mul, ← q135]
 congr 1
 omega
theorem lRun_val (l : List UInt8) : ∀ k, k ≤ l.length → k ≤ 64 → gV 268435456 (lRun l k) = ((leN (l.take k) : Nat) : Int)
 | 0, _, _ => by
  rw [List.take_zero]
  exact gV_zeros _ 19
 | k + 1, hk, h64 => by
  simp only [lRun, lStep]
  rw [gV_set _ _ _ _ (by rw [zdu]; omega), lRun_val l k (by omega) (by omega), leN_take_succ l k (by omega)]
  have e := pow_split k
  simp only [Int.natCast_add, Int.natCast_mul, Int.natCast_pow]
  rw [show ((256 : Nat) : Int) = 256 from rfl, ← e]
  generalize (268435456 : Int) ^ (8 * k / 28) = X
  generalize (2 : Int) ^ (8 * k % 28) = Y
  grind
def hQ : Int := 268435456 ^ 18 * 256
theorem hQ_nat : hQ = ((256 ^ 64 : Nat) : Int) := by decide +kernel
theorem leN_hQ (l : List UInt8) (h : l.length ≤ 64) : (leN l : Int) < hQ := by
 have h1 := leN_lt l
 have h2 : 256 ^ l.length ≤ 256 ^ 64 := q178 (by omega) h
 rw [hQ_nat]
 exact Int.ofNat_lt.2 (q114 h1 h2)
structure Can (y : List Int) (v : Int) : Prop where
 len : y.length = 19
 val : gV 268435456 y = v
 low : ∀ j, j < 18 → 0 ≤ y.getD j 0 ∧ y.getD j 0 < 268435456
 top : 0 ≤ y.getD 18 0 ∧ y.getD 18 0 < 256
theorem carry_can {x : List Int} {v B : Int} (hl : x.length = 19) (h0 : 0 ≤ B) (hB : ∀ j, j < 19 → -B ≤ x.getD j 0 ∧ x.getD j 0 ≤ B) (hv : gV 268435456 x = v) (v0 : 0 ≤ v) (v1 : v < hQ) : Can (cRun x 0 18) v := by
 obtain ⟨h1, h2, h3, h4, h5, h6⟩ := cRun_spec x 0 B h0 18 (by omega) (fun j _ hj => hB j (by omega))
 have hlo : ∀ j, j < 18 → 0 ≤ (cRun x 0 18).getD j 0 ∧ (cRun x 0 18).getD j 0 < 268435456 := fun j hj => h4 j (by omega) (by omega)
 refine ⟨by omega, by rw [h2, hv], hlo, ?_⟩
 have hd := gV_div (B := 268435456) (by omega) (zs := cRun x 0 18) (d := 18) (by omega) hlo
 have e : gV 268435456 ((cRun x 0 18).drop 18) = (cRun x 0 18).getD 18 0 := by
  have hlen : ((cRun x 0 18).drop 18).length = 1 := by simp; omega
  match hq : (cRun x 0 18).drop 18, hlen with
  | [z], _ =>
   have : ((cRun x 0 18).drop 18).getD 0 0 = z := by rw [hq]; rfl
   rw [zeg] at this
   simp only [gV, this]
   omega
 rw [e, h2, hv] at hd
 rw [← hd]
 have e4 : (0 : Int) < 268435456 ^ 18 := Int.pow_pos (by omega)
 unfold hQ at v1
 generalize (268435456 : Int) ^ 18 = X at *
 exact ⟨Int.ediv_nonneg v0 (by omega), Int.ediv_lt_of_lt_mul e4 (by rw [Int.mul_comm]; exact v1)⟩
def TAIL : List Int := [217437165, 19280293, 127719000, 262007343, 5342]
theorem gV_tail : gV 268435456 TAIL = tT := by decide +kernel
theorem TAIL_getD (j : Nat) : 0 ≤ TAIL.getD j 0 ∧ TAIL.getD j 0 < 268435456 := by
 rcases (by omega : j = 0 ∨ j = 1 ∨ j = 2 ∨ j = 3 ∨ j = 4 ∨ 5 ≤ j) with rfl | rfl | rfl | rfl | rfl | h
 ·decide
 ·decide
 ·decide
 ·decide
 ·decide
 ·rw [getD_out (by simpa [TAIL] using h)]
  omega
def zbp (x : List Int) (i : Nat) : Nat → List Int
 | 0 => x
 | n + 1 => (zbp x i n).set (i - 9 + n) ((zbp x i n).getD (i - 9 + n) 0 - (zbp x i n).getD i 0 * TAIL.getD n 0)
theorem zds (x : List Int) (i : Nat) : ∀ n, (zbp x i n).length = x.length
 | 0 => rfl
 | n + 1 => by simp [zbp, zds x i n]
theorem tRun_far (x : List Int) (i : Nat) : ∀ n j, (j < i - 9 ∨ i - 9 + n ≤ j) → (zbp x i n).getD j 0 = x.getD j 0
 | 0, _, _ => rfl
 | n + 1, j, h => by
  simp only [zbp]
  rw [zag (by omega)]
  exact tRun_far x i n j (by omega)
theorem tRun_top (x : List Int) (i : Nat) (hi : 9 ≤ i) : ∀ n, n ≤ 5 → (zbp x i n).getD i 0 = x.getD i 0 := fun n hn => tRun_far x i n i (by omega)
theorem tRun_in (x : List Int) (i : Nat) (hi : 9 ≤ i) (hx : i < x.length) : ∀ n j, n ≤ 5 → i - 9 ≤ j → j < i - 9 + n → (zbp x i n).getD j 0 = x.getD j 0 - x.getD i 0 * TAIL.getD (j - (i - 9)) 0
 | 0, j, _, h1, h2 => by omega
 | n + 1, j, hn, h1, h2 => by
  simp only [zbp]
  by_cases e : j = i - 9 + n
  ·subst e
   rw [zal (by rw [zds]; omega), tRun_top x i hi n (by omega), tRun_far x i n _ (by omega), Nat.add_sub_cancel_left]
  ·rw [zag (by omega)]
   exact tRun_in x i hi hx n j (by omega) h1 (by omega)
theorem tRun_val (x : List Int) (i : Nat) (hi : 9 ≤ i) (hx : i < x.length) : ∀ n, n ≤ 5 → gV 268435456 (zbp x i n) = gV 268435456 x - x.getD i 0 * gV 268435456 (TAIL.take n) * 268435456 ^ (i - 9)
 | 0, _ => by simp [zbp, gV]
 | n + 1, hn => by
  simp only [zbp]
  rw [gV_set _ _ _ _ (by rw [zds]; omega), tRun_val x i hi hx n (by omega), tRun_top x i hi n (by omega), zcc _ TAIL n (by simp [TAIL]; omega), q135]
  generalize (zbp x i n).getD (i - 9 + n) 0 = a
  generalize (268435456 : Int) ^ (i - 9) = X
  generalize (268435456 : Int) ^ n = Y
  generalize gV 268435456 (TAIL.take n) = T
  generalize x.getD i 0 = u
  generalize TAIL.getD n 0 = t
  grind
def rStep (x : List Int) (i : Nat) : List Int := cRun ((zbp x i 5).set i 0) (i - 9) 8
structure RI (x : List Int) (i : Nat) (v : Int) : Prop where
 len : x.length = 19
 cong : ∃ k, gV 268435456 x = v + qQ * k
 low : ∀ j, j < i → 0 ≤ x.getD j 0 ∧ x.getD j 0 < 268435456
 here : -1 ≤ x.getD i 0 ∧ x.getD i 0 ≤ 268435456
 high : ∀ j, i < j → x.getD j 0 = 0
theorem RI.start {y : List Int} {v : Int} (h : Can y v) : RI y 18 v := by
 obtain ⟨h1, h2, h3, h4⟩ := h
 exact ⟨h1, ⟨0, by omega⟩, h3, by omega, fun j hj => getD_out (by omega)⟩
theorem RI.part {x : List Int} {i : Nat} {v : Int} (h : RI x i v) (hi : 9 ≤ i) (hi2 : i ≤ 18) :
  (∀ j, j < 19 → -1152921504606846976 ≤ ((zbp x i 5).set i 0).getD j 0 ∧ ((zbp x i 5).set i 0).getD j 0 ≤ 1152921504606846976) ∧
  gV 268435456 ((zbp x i 5).set i 0) = gV 268435456 x - x.getD i 0 * qQ * 268435456 ^ (i - 9) := by
 obtain ⟨h1, h2, h3, h4, h5⟩ := h
 refine ⟨fun j hj => ?_, ?_⟩
 ·by_cases e : j = i
  ·subst e
   rw [zal (by rw [zds]; omega)]
   omega
  ·rw [zag (by omega)]
   have hj2 : 0 ≤ x.getD j 0 ∧ x.getD j 0 < 268435456 := by
    rcases q116 j i with g | g
    ·exact h3 j g
    ·rw [h5 j (by omega)]; omega
   by_cases g : i - 9 ≤ j ∧ j < i - 9 + 5
   ·rw [tRun_in x i hi (by omega) 5 j (by omega) g.1 g.2]
    have ht := TAIL_getD (j - (i - 9))
    generalize TAIL.getD (j - (i - 9)) 0 = t at *
    generalize x.getD i 0 = u at *
    generalize x.getD j 0 = z at *
    have b1 : u * t ≤ 268435456 * 268435456 := by
     rcases Int.le_total 0 u with g2 | g2
     ·exact Int.mul_le_mul h4.2 (by omega) (by omega) (by omega)
     ·have : u * t ≤ 0 := Int.mul_nonpos_of_nonpos_of_nonneg g2 ht.1
      omega
    have b2 : -268435456 ≤ u * t := by
     rcases Int.le_total 0 u with g2 | g2
     ·have := q151 g2 ht.1
      omega
     ·have e1 : u = 0 ∨ u = -1 := by omega
      rcases e1 with rfl | rfl <;> omega
    omega
   ·rw [tRun_far x i 5 j (by omega)]
    omega
 ·rw [gV_set _ _ _ _ (by rw [zds]; omega), tRun_val x i hi (by omega) 5 (by omega), tRun_top x i hi 5 (by omega)]
  have e1 : gV 268435456 (TAIL.take 5) = tT := gV_tail
  have e2 : (268435456 : Int) ^ i = 268435456 ^ 9 * 268435456 ^ (i - 9) := by rw [← q135]; congr 1; omega
  have e3 : qQ = 268435456 ^ 9 + tT := by decide +kernel
  rw [e1, e2, e3]
  generalize (268435456 : Int) ^ (i - 9) = X
  generalize (268435456 : Int) ^ 9 = Y
  generalize x.getD i 0 = u
  grind
theorem gV_ends {B : Int} (hB : 0 < B) {u : List Int} {n : Nat} (hn : n < u.length) (h : ∀ j, j < n → 0 ≤ u.getD j 0 ∧ u.getD j 0 < B) (hz : ∀ j, n < j → u.getD j 0 = 0) :
  ∃ l, 0 ≤ l ∧ l < B ^ n ∧ gV B u = l + B ^ n * u.getD n 0 := by
 have hr := gV_range hB (zs := u.take n) (fun i hi => by
  have hi2 : i < n := by simp at hi; omega
  rw [getD_take hi2]
  exact h i hi2)
 rw [q112, q158 (by omega)] at hr
 refine ⟨gV B (u.take n), hr.1, hr.2, ?_⟩
 rw [gV_cut B u n (by omega)]
 congr 2
 have hd : u.drop n = u.getD n 0 :: u.drop (n + 1) := by
  rw [q164 hn, getD_eq hn]
 rw [hd, gV, gV_zero_of B (zs := u.drop (n + 1)) (fun i => by rw [zeg]; exact hz _ (by omega))]
 omega
theorem RI.step {x : List Int} {i : Nat} {v : Int} (h : RI x i v) (hi : 9 ≤ i) (hi2 : i ≤ 18) :
  RI (rStep x i) (i - 1) v ∧ -qQ < gV 268435456 ((rStep x i).drop (i - 9)) ∧ gV 268435456 ((rStep x i).drop (i - 9)) < qQ := by
 obtain ⟨p1, p2⟩ := h.part hi hi2
 obtain ⟨h1, ⟨k, h2⟩, h3, h4, h5⟩ := h
 have hlen : ((zbp x i 5).set i 0).length = 19 := by simp [zds, h1]
 have hC := cRun_spec ((zbp x i 5).set i 0) (i - 9) 1152921504606846976 (by omega) 8 (by omega) (fun j _ hj => p1 j (by omega))
 change CR _ (rStep x i) (i - 9) 8 _ at hC
 obtain ⟨c1, c2, c3, c4, c5, c6⟩ := hC
 generalize rStep x i = y at *
 have yl : y.length = 19 := by omega
 have hlow : ∀ j, j < i - 1 → 0 ≤ y.getD j 0 ∧ y.getD j 0 < 268435456 := by
  intro j hj
  rcases q116 j (i - 9) with g | g
  ·rw [c3 j g, zag (by omega), tRun_far x i 5 j (by omega)]
   exact h3 j (by omega)
  ·exact c4 j g (by omega)
 have hhigh : ∀ j, i - 1 < j → y.getD j 0 = 0 := by
  intro j hj
  rw [c6 j (by omega)]
  by_cases e : j = i
  ·subst e
   rw [zal (by rw [zds]; omega)]
  ·rw [zag (by omega), tRun_far x i 5 j (by omega)]
   exact h5 j (by omega)
 have ht : y.take (i - 9) = x.take (i - 9) := by
  refine take_eq (by omega) (by omega) (fun j hj => ?_)
  rw [c3 j hj, zag (by omega), tRun_far x i 5 j (by omega)]
 have e1 := gV_cut 268435456 y (i - 9) (by omega)
 have e2 := gV_cut 268435456 x (i - 9) (by omega)
 obtain ⟨lx, l1, l2, l3⟩ := gV_ends (B := 268435456) (by omega) (u := x.drop (i - 9)) (n := 9) (by simp; omega) (fun j hj => by rw [zeg]; exact h3 _ (by omega)) (fun j hj => by rw [zeg]; exact h5 _ (by omega))
 obtain ⟨ly, m1, m2, m3⟩ := gV_ends (B := 268435456) (by omega) (u := y.drop (i - 9)) (n := 8) (by simp; omega) (fun j hj => by rw [zeg]; exact hlow _ (by omega)) (fun j hj => by rw [zeg]; exact hhigh _ (by omega))
 rw [zeg, show i - 9 + 9 = i from by omega] at l3
 rw [zeg, show i - 9 + 8 = i - 1 from by omega] at m3
 have hX : 0 < (268435456 : Int) ^ (i - 9) := Int.pow_pos (by omega)
 have e3 : gV 268435456 (y.drop (i - 9)) = gV 268435456 (x.drop (i - 9)) - x.getD i 0 * qQ := by
  rw [ht] at e1
  rw [c2, p2, e2] at e1
  generalize (268435456 : Int) ^ (i - 9) = X at *
  refine Int.eq_of_mul_eq_mul_left (by omega : X ≠ 0) ?_
  rw [Int.mul_sub]
  have : X * (x.getD i 0 * qQ) = x.getD i 0 * qQ * X := Int.mul_comm _ _
  omega
 have hq : qQ = 268435456 ^ 9 + tT := by decide +kernel
 have hw : -qQ < gV 268435456 (y.drop (i - 9)) ∧ gV 268435456 (y.drop (i - 9)) < qQ ∧ -1 ≤ y.getD (i - 1) 0 ∧ y.getD (i - 1) 0 ≤ 268435456 := by
  have n9 : (268435456 : Int) ^ 9 = 7237005577332262213973186563042994240829374041602535252466099000494570602496 := by decide +kernel
  have n8 : (268435456 : Int) ^ 8 = 26959946667150639794667015087019630673637144422540572481103610249216 := by decide +kernel
  rw [l3] at e3
  rw [hq] at e3 ⊢
  rw [e3] at m3 ⊢
  rw [n9] at *
  rw [n8] at *
  unfold tT at *
  clear e1 e2 p2 c2 h2 hX
  generalize x.getD i 0 = u at *
  generalize y.getD (i - 1) 0 = z at *
  omega
 refine ⟨⟨yl, ⟨k - x.getD i 0 * 268435456 ^ (i - 9), ?_⟩, hlow, ⟨hw.2.2.1, hw.2.2.2⟩, hhigh⟩, hw.1, hw.2.1⟩
 rw [c2, p2, h2]
 generalize (268435456 : Int) ^ (i - 9) = X
 generalize x.getD i 0 = u
 generalize qQ = Q
 grind
def zel (x : List Int) : Nat → List Int
 | 0 => x
 | n + 1 => rStep (zel x n) (18 - n)
theorem rRun_RI {x : List Int} {v : Int} (h : RI x 18 v) : ∀ n, n ≤ 10 → RI (zel x n) (18 - n) v
 | 0, _ => h
 | n + 1, hn => by
  have := ((rRun_RI h n (by omega)).step (by omega) (by omega)).1
  rwa [show 18 - n - 1 = 18 - (n + 1) from by omega] at this
theorem rRun_end {x : List Int} {v : Int} (h : RI x 18 v) : -qQ < gV 268435456 (zel x 10) ∧ gV 268435456 (zel x 10) < qQ :=
 ((rRun_RI h 9 (by omega)).step (by omega) (by omega)).2
def aRun (x : List Int) (s : Int) : Nat → List Int
 | 0 => x
 | n + 1 => (aRun x s n).set n ((aRun x s n).getD n 0 + s * TAIL.getD n 0)
theorem zes (x : List Int) (s : Int) : ∀ n, (aRun x s n).length = x.length
 | 0 => rfl
 | n + 1 => by simp [aRun, zes x s n]
theorem aRun_far (x : List Int) (s : Int) : ∀ n j, n ≤ j → (aRun x s n).getD j 0 = x.getD j 0
 | 0, _, _ => rfl
 | n + 1, j, h => by
  simp only [aRun]
  rw [zag (by omega)]
  exact aRun_far x s n j (by omega)
theorem aRun_in (x : List Int) (s : Int) : ∀ n j, n ≤ x.length → j < n → (aRun x s n).getD j 0 = x.getD j 0 + s * TAIL.getD j 0
 | 0, j, _, h => by omega
 | n + 1, j, hn, h => by
  simp only [aRun]
  by_cases e : j = n
  ·subst e
   rw [zal (by rw [zes]; omega), aRun_far x s j j (by omega)]
  ·rw [zag (by omega)]
   exact aRun_in x s n j (by omega) (by omega)
theorem aRun_val (x : List Int) (s : Int) : ∀ n, n ≤ 5 → n ≤ x.length → gV 268435456 (aRun x s n) = gV 268435456 x + s * gV 268435456 (TAIL.take n)
 | 0, _, _ => by simp [aRun, gV]
 | n + 1, hn, hl => by
  simp only [aRun]
  rw [gV_set _ _ _ _ (by rw [zes]; omega), aRun_val x s n (by omega) (by omega), zcc _ TAIL n (by simp [TAIL]; omega)]
  generalize (aRun x s n).getD n 0 = a
  generalize (268435456 : Int) ^ n = Y
  generalize gV 268435456 (TAIL.take n) = T
  generalize TAIL.getD n 0 = t
  grind
def sgn (x : List Int) : Int := if x.getD 8 0 < 0 then 1 else 0
def addQ (x : List Int) : List Int := (aRun x (sgn x) 5).set 8 ((aRun x (sgn x) 5).getD 8 0 + sgn x * 268435456)
def restF (x : List Int) : List Int := cRun (addQ (zel x 10)) 0 8
structure Fin9 (y : List Int) (v : Int) : Prop where
 len : y.length = 19
 val : gV 268435456 y = v
 low : ∀ j, j < 8 → 0 ≤ y.getD j 0 ∧ y.getD j 0 < 268435456
 here : 0 ≤ y.getD 8 0 ∧ y.getD 8 0 ≤ 268435456
 high : ∀ j, 8 < j → y.getD j 0 = 0
theorem sgn_01 (x : List Int) : sgn x = 0 ∨ sgn x = 1 := by unfold sgn; split <;> simp
theorem addQ_range {x : List Int} {v : Int} (h : RI x 8 v) : (addQ x).length = 19 ∧ (∀ j, j < 19 → -1152921504606846976 ≤ (addQ x).getD j 0 ∧ (addQ x).getD j 0 ≤ 1152921504606846976) ∧ gV 268435456 (addQ x) = gV 268435456 x + sgn x * qQ ∧ (∀ j, 8 < j → (addQ x).getD j 0 = 0) := by
 obtain ⟨h1, h2, h3, h4, h5⟩ := h
 have hs := sgn_01 x
 unfold addQ
 generalize sgn x = s at *
 refine ⟨by simp [zes, h1], fun j hj => ?_, ?_, fun j hj => ?_⟩
 ·by_cases e : j = 8
  ·subst e
   rw [zal (by rw [zes]; omega), aRun_far x s 5 8 (by omega)]
   rcases hs with rfl | rfl <;> omega
  ·rw [zag (by omega)]
   have hj2 : 0 ≤ x.getD j 0 ∧ x.getD j 0 < 268435456 := by
    rcases q116 j 8 with g | g
    ·exact h3 j g
    ·rw [h5 j (by omega)]; omega
   by_cases g : j < 5
   ·rw [aRun_in x s 5 j (by omega) g]
    have ht := TAIL_getD j
    rcases hs with rfl | rfl <;> omega
   ·rw [aRun_far x s 5 j (by omega)]
    omega
 ·rw [gV_set _ _ _ _ (by rw [zes]; omega), aRun_val x s 5 (by omega) (by omega)]
  have e1 : gV 268435456 (TAIL.take 5) = tT := gV_tail
  have e3 : qQ = 268435456 * 268435456 ^ 8 + tT := by decide +kernel
  rw [e1, e3]
  generalize (268435456 : Int) ^ 8 = Y
  generalize (aRun x s 5).getD 8 0 = a
  grind
 ·rw [zag (by omega), aRun_far x s 5 j (by omega)]
  exact h5 j hj
theorem restF_spec {x : List Int} {v : Int} (h : RI x 18 v) : Fin9 (restF x) (v % qQ) := by
 have hR := rRun_RI h 10 (by omega)
 obtain ⟨q1, q2⟩ := rRun_end h
 unfold restF
 generalize zel x 10 = y at *
 change RI y 8 v at hR
 obtain ⟨a1, a2, a3, a4⟩ := addQ_range hR
 obtain ⟨h1, ⟨k, h2⟩, h3, h4, h5⟩ := hR
 obtain ⟨l, l1, l2, l3⟩ := gV_ends (B := 268435456) (by omega) (u := y) (n := 8) (by omega) h3 h5
 have hv : 0 ≤ gV 268435456 (addQ y) ∧ gV 268435456 (addQ y) < qQ := by
  have n8 : (268435456 : Int) ^ 8 = 26959946667150639794667015087019630673637144422540572481103610249216 := by decide +kernel
  rw [a3]
  rw [n8] at l2 l3
  unfold sgn
  generalize y.getD 8 0 = u at *
  generalize gV 268435456 y = V at *
  split
  ·omega
  ·omega
 have hmod : gV 268435456 (addQ y) = v % qQ := by
  rw [← q171 hv.1 hv.2, a3, h2]
  rw [show v + qQ * k + sgn y * qQ = v + qQ * (k + sgn y) from by grind, Int.add_mul_emod_self_left]
 obtain ⟨c1, c2, c3, c4, c5, c6⟩ := cRun_spec (addQ y) 0 1152921504606846976 (by omega) 8 (by omega) (fun j _ hj => a2 j (by omega))
 generalize cRun (addQ y) 0 8 = z at *
 have hlow : ∀ j, j < 8 → 0 ≤ z.getD j 0 ∧ z.getD j 0 < 268435456 := fun j hj => c4 j (by omega) (by omega)
 have hhigh : ∀ j, 8 < j → z.getD j 0 = 0 := fun j hj => by rw [c6 j (by omega)]; exact a4 j hj
 obtain ⟨m, m1, m2, m3⟩ := gV_ends (B := 268435456) (by omega) (u := z) (n := 8) (by omega) hlow hhigh
 refine ⟨by omega, by rw [c2, hmod], hlow, ?_, hhigh⟩
 rw [c2] at m3
 have n8 : (268435456 : Int) ^ 8 = 26959946667150639794667015087019630673637144422540572481103610249216 := by decide +kernel
 rw [n8] at m2 m3
 unfold qQ at hv
 generalize z.getD 8 0 = u at *
 omega
def nq (x : Int) : List UInt8 := bytesN 32 (x % qQ).toNat
theorem zbu (x : Int) : (nq x).length = 32 := zav _ _
theorem pow_mul28 (s : Nat) (h : s ≤ 28) : (2 : Nat) ^ s * 2 ^ (28 - s) = 268435456 := by
 rw [← Nat.pow_add, Nat.add_sub_cancel' h]
theorem byte_of_limbs {y : List Int} {v : Int} (h : Fin9 y v) (v0 : 0 ≤ v) {i p s : Nat} (hi : i < 32) (hp : p = 8 * i / 28) (hs : s = 8 * i % 28) :
  IntKind.u8.wrap (bits .or .i64 (y.getD p 0 / 2 ^ s) (y.getD (p + 1) 0 * 2 ^ (28 - s))) = (((bytesN 32 v.toNat).getD i 0).toNat : Int) := by
 obtain ⟨h1, h2, h3, h4, h5⟩ := h
 have hp8 : p ≤ 8 := by omega
 have s28 : s < 28 := by omega
 have hd := gV_div (B := 268435456) (by omega) (zs := y) (d := p) (by omega) (fun j hj => h3 j (by omega))
 have c1 : y.drop p = y.getD p 0 :: y.getD (p + 1) 0 :: y.drop (p + 2) := by
  rw [q164 (by omega), q164 (by omega : p + 1 < y.length), getD_eq (by omega), getD_eq (by omega)]
 rw [c1, h2] at hd
 simp only [gV] at hd
 generalize gV 268435456 (y.drop (p + 2)) = R at hd
 have hN : 0 ≤ y.getD (p + 1) 0 ∧ y.getD (p + 1) 0 ≤ 268435456 := by
  rcases (by omega : p + 1 < 8 ∨ p + 1 = 8 ∨ 8 < p + 1) with g | g | g
  ·have := h3 _ g; omega
  ·rw [g]; exact h4
  ·rw [h5 _ g]; omega
 have hP : 0 ≤ y.getD p 0 ∧ y.getD p 0 ≤ 268435456 ∧ (y.getD p 0 < 268435456 ∨ y.getD (p + 1) 0 = 0) := by
  rcases (by omega : p < 8 ∨ p = 8) with g | g
  ·have := h3 _ g; omega
  ·rw [g]; exact ⟨h4.1, h4.2, Or.inr (h5 _ (by omega))⟩
 generalize y.getD p 0 = P at *
 generalize y.getD (p + 1) 0 = N at *
 obtain ⟨a, rfl⟩ : ∃ a : Nat, P = a := ⟨P.toNat, by omega⟩
 obtain ⟨b, rfl⟩ : ∃ b : Nat, N = b := ⟨N.toNat, by omega⟩
 have k28 := pow_mul28 s (by omega)
 have kp1 : 0 < 2 ^ s := Nat.pow_pos (by omega)
 have kp2 : 0 < 2 ^ (28 - s) := Nat.pow_pos (by omega)
 have kle : 2 ^ (28 - s) ≤ 268435456 := by rw [← k28]; exact Nat.le_mul_of_pos_left _ kp1
 have e1 : (a : Int) / 2 ^ s = ((a / 2 ^ s : Nat) : Int) := by simp
 have e2 : (b : Int) * 2 ^ (28 - s) = ((2 ^ (28 - s) * b : Nat) : Int) := by
  rw [Int.natCast_mul, Int.mul_comm]
  simp
 have hor : a / 2 ^ s ||| 2 ^ (28 - s) * b = a / 2 ^ s + 2 ^ (28 - s) * b := by
  rcases hP.2.2 with g | g
  ·have ha : a / 2 ^ s < 2 ^ (28 - s) := by
    rw [Nat.div_lt_iff_lt_mul kp1, q129, k28]
    omega
   rw [Nat.or_comm, or_sum (28 - s) _ _ ha]
   omega
  ·have : b = 0 := by omega
   subst this
   simp
 have hb2 : 2 ^ (28 - s) * b ≤ 268435456 * 268435456 := Nat.mul_le_mul kle (by omega)
 have ha2 : a / 2 ^ s ≤ a := Nat.div_le_self _ _
 rw [e1, e2, or_i64 _ _ (by omega) (by omega), hor, zdd 32 _ i hi, IntKind.wrap_u8]
 have e3 : (v.toNat / 256 ^ i % 256 : Nat) = (v / 256 ^ i % 256).toNat := by
  obtain ⟨n, rfl⟩ : ∃ n : Nat, v = n := ⟨v.toNat, by omega⟩
  have e : ((256 : Int) ^ i) = ((256 ^ i : Nat) : Int) := by simp
  rw [e, Int.toNat_natCast, ← Int.natCast_ediv]
  omega
 have e4 : (256 : Int) ^ i = 268435456 ^ p * 2 ^ s := by rw [hp, hs]; exact (pow_split i).symm
 have e5 : v / 256 ^ i = ((a / 2 ^ s + 2 ^ (28 - s) * b : Nat) : Int) + 256 * (1048576 * 2 ^ (28 - s) * R) := by
  rw [e4, ← Int.ediv_ediv_of_nonneg (Int.le_of_lt (Int.pow_pos (by omega))), hd]
  have e6 : (268435456 : Int) = 2 ^ s * 2 ^ (28 - s) := by rw [← q135, Nat.add_sub_cancel' (by omega)]; decide
  have e7 : (a : Int) + 268435456 * ((b : Int) + 268435456 * R) = (a : Int) + 2 ^ s * (2 ^ (28 - s) * ((b : Int) + 268435456 * R)) := by
   rw [← Int.mul_assoc, ← e6]
  rw [e7, Int.add_mul_ediv_left _ _ (Int.ne_of_gt (Int.pow_pos (by omega)))]
  rw [e1]
  have e8 : ((2 ^ (28 - s) : Nat) : Int) = 2 ^ (28 - s) := by simp
  rw [Int.natCast_add, Int.natCast_mul, e8]
  generalize (2 : Int) ^ (28 - s) = Z
  generalize ((a / 2 ^ s : Nat) : Int) = u
  grind
 rw [e3, e5]
 generalize (1048576 : Int) * 2 ^ (28 - s) * R = Z
 generalize (a / 2 ^ s + 2 ^ (28 - s) * b : Nat) = S
 omega
def aLim (x y : List Int) : Nat → List Int
 | 0 => x
 | k + 1 => (aLim x y k).set k ((aLim x y k).getD k 0 + y.getD k 0)
theorem aLim_length (x y : List Int) : ∀ k, (aLim x y k).length = x.length
 | 0 => rfl
 | k + 1 => by simp [aLim, aLim_length x y k]
theorem aLim_far (x y : List Int) : ∀ k j, k ≤ j → (aLim x y k).getD j 0 = x.getD j 0
 | 0, _, _ => rfl
 | k + 1, j, h => by
  simp only [aLim]
  rw [zag (by omega)]
  exact aLim_far x y k j (by omega)
theorem aLim_in (x y : List Int) : ∀ k j, k ≤ x.length → j < k → (aLim x y k).getD j 0 = x.getD j 0 + y.getD j 0
 | 0, j, _, h => by omega
 | k + 1, j, hn, h => by
  simp only [aLim]
  by_cases e : j = k
  ·subst e
   rw [zal (by rw [aLim_length]; omega), aLim_far x y j j (by omega)]
  ·rw [zag (by omega)]
   exact aLim_in x y k j (by omega) (by omega)
theorem aLim_val (B : Int) (x y : List Int) : ∀ k, k ≤ x.length → k ≤ y.length → gV B (aLim x y k) = gV B x + gV B (y.take k)
 | 0, _, _ => by simp [aLim, gV]
 | k + 1, hx, hy => by
  simp only [aLim]
  rw [gV_set _ _ _ _ (by rw [aLim_length]; omega), aLim_val B x y k (by omega) (by omega), zcc _ y k (by omega)]
  generalize (aLim x y k).getD k 0 = a
  generalize B ^ k = Y
  generalize gV B (y.take k) = T
  generalize y.getD k 0 = t
  grind
def mRow (p x y : List Int) (i : Nat) : Nat → List Int
 | 0 => p
 | j + 1 => (mRow p x y i j).set (i + j) ((mRow p x y i j).getD (i + j) 0 + x.getD i 0 * y.getD j 0)
def mAll (x y : List Int) : Nat → List Int
 | 0 => List.replicate 19 0
 | i + 1 => mRow (mAll x y i) x y i 10
theorem zdk (p x y : List Int) (i : Nat) : ∀ j, (mRow p x y i j).length = p.length
 | 0 => rfl
 | j + 1 => by simp [mRow, zdk p x y i j]
theorem mAll_length (x y : List Int) : ∀ i, (mAll x y i).length = 19
 | 0 => by simp [mAll]
 | i + 1 => by rw [mAll, zdk, mAll_length x y i]
theorem mRow_far (p x y : List Int) (i : Nat) : ∀ j k, i + j ≤ k → (mRow p x y i j).getD k 0 = p.getD k 0
 | 0, _, _ => rfl
 | j + 1, k, h => by
  simp only [mRow]
  rw [zag (by omega)]
  exact mRow_far p x y i j k (by omega)
theorem mul_range {a b M : Int} (h1 : 0 ≤ a) (h2 : a ≤ M) (h3 : 0 ≤ b) (h4 : b ≤ M) : 0 ≤ a * b ∧ a * b ≤ M * M :=
 ⟨q151 h1 h3, Int.mul_le_mul h2 h4 h3 (by omega)⟩
theorem mRow_range {p x y : List Int} {i : Nat} {C : Int} (hi : i < 10) (hp : p.length = 19) (hC : ∀ k, 0 ≤ p.getD k 0 ∧ p.getD k 0 ≤ C) (hx : 0 ≤ x.getD i 0 ∧ x.getD i 0 ≤ 268435456) (hy : ∀ j, 0 ≤ y.getD j 0 ∧ y.getD j 0 ≤ 268435456) :
  ∀ j, j ≤ 10 → ∀ k, 0 ≤ (mRow p x y i j).getD k 0 ∧ (mRow p x y i j).getD k 0 ≤ C + 72057594037927936
 | 0, _, k => by have := hC k; simp only [mRow]; omega
 | j + 1, hj, k => by
  have ih := mRow_range hi hp hC hx hy j (by omega) k
  have hm := mul_range hx.1 hx.2 (hy j).1 (hy j).2
  simp only [mRow]
  by_cases e : i + j = k
  ·subst e
   rw [zal (by rw [zdk]; omega), mRow_far p x y i j _ (by omega)]
   have := hC (i + j)
   omega
  ·rw [zag e]
   exact ih
theorem mAll_range {x y : List Int} (hx : ∀ j, 0 ≤ x.getD j 0 ∧ x.getD j 0 ≤ 268435456) (hy : ∀ j, 0 ≤ y.getD j 0 ∧ y.getD j 0 ≤ 268435456) : ∀ i, i ≤ 10 → ∀ k, 0 ≤ (mAll x y i).getD k 0 ∧ (mAll x y i).getD k 0 ≤ (i : Int) * 72057594037927936
 | 0, _, k => by
  simp only [mAll, List.getD, List.getElem?_replicate]
  split <;> simp
 | i + 1, hi, k => by
  have := mRow_range (C := (i : Int) * 72057594037927936) (by omega) (mAll_length x y i) (mAll_range hx hy i (by omega)) (hx i) hy 10 (by omega) k
  simp only [mAll]
  omega
theorem mRow_val (p x y : List Int) (i : Nat) (hi : i < 10) (hp : p.length = 19) (hy : y.length = 19) : ∀ j, j ≤ 10 → gV 268435456 (mRow p x y i j) = gV 268435456 p + x.getD i 0 * 268435456 ^ i * gV 268435456 (y.take j)
 | 0, _ => by simp [mRow, gV]
 | j + 1, hj => by
  simp only [mRow]
  rw [gV_set _ _ _ _ (by rw [zdk]; omega), mRow_val p x y i hi hp hy j (by omega), zcc _ y j (by omega), q135]
  generalize (mRow p x y i j).getD (i + j) 0 = a
  generalize (268435456 : Int) ^ i = X
  generalize (268435456 : Int) ^ j = Y
  generalize gV 268435456 (y.take j) = T
  generalize y.getD j 0 = t
  generalize x.getD i 0 = u
  grind
theorem mAll_val (x y : List Int) (hx : x.length = 19) (hy : y.length = 19) : ∀ i, i ≤ 10 → gV 268435456 (mAll x y i) = gV 268435456 (x.take i) * gV 268435456 (y.take 10)
 | 0, _ => by simp [mAll, gV_zeros, gV]
 | i + 1, hi => by
  simp only [mAll]
  rw [mRow_val _ _ _ _ (by omega) (mAll_length x y i) hy 10 (by omega), mAll_val x y hx hy i (by omega), zcc _ x i (by omega)]
  generalize (268435456 : Int) ^ i = X
  generalize gV 268435456 (y.take 10) = T
  generalize gV 268435456 (x.take i) = S
  generalize x.getD i 0 = u
  grind
theorem Can.range {y : List Int} {v : Int} (h : Can y v) : ∀ j, 0 ≤ y.getD j 0 ∧ y.getD j 0 < 268435456 := by
 intro j
 rcases (by omega : j < 18 ∨ j = 18 ∨ 18 < j) with g | g | g
 ·exact h.low j g
 ·rw [g]; have := h.top; omega
 ·rw [getD_out (by have := h.len; omega)]; omega
theorem Can.ten {y : List Int} {v : Int} (h : Can y v) (hv : v < 268435456 ^ 10) (v0 : 0 ≤ v) : gV 268435456 (y.take 10) = v := by
 have hc := gV_cut 268435456 y 10 (by have := h.len; omega)
 have hd := gV_div (B := 268435456) (by omega) (zs := y) (d := 10) (by have := h.len; omega) (fun j hj => h.low j (by omega))
 rw [h.val, Int.ediv_eq_zero_of_lt v0 hv] at hd
 rw [← hd, h.val] at hc
 omega
theorem leN_ten (l : List UInt8) (h : l.length = 32) : (leN l : Int) < 268435456 ^ 10 := by
 have h1 := leN_lt l
 rw [h] at h1
 have h2 : ((256 ^ 32 : Nat) : Int) < 268435456 ^ 10 := by decide +kernel
 exact Int.lt_trans (Int.ofNat_lt.2 h1) h2
theorem leN_prod (l m : List UInt8) (hl : l.length = 32) (hm : m.length = 32) : (leN l : Int) * leN m < hQ := by
 have h1 := leN_lt l
 have h2 := leN_lt m
 rw [hl] at h1
 rw [hm] at h2
 have h3 : leN l * leN m < 256 ^ 32 * 256 ^ 32 := Nat.mul_lt_mul'' h1 h2
 have h4 : ((256 ^ 32 * 256 ^ 32 : Nat) : Int) = hQ := by decide +kernel
 rw [← h4, ← Int.natCast_mul]
 exact Int.ofNat_lt.2 h3
theorem leN_summ (l m : List UInt8) (hl : l.length = 32) (hm : m.length = 32) : (leN l : Int) + leN m < hQ := by
 have h1 := leN_ten l hl
 have h2 := leN_ten m hm
 have h4 : (268435456 : Int) ^ 10 + 268435456 ^ 10 < hQ := by decide +kernel
 omega
theorem nq_val (x : Int) : ((leN (nq x) : Nat) : Int) = x % qQ := by
 have h0 : 0 ≤ x % qQ := Int.emod_nonneg x (by decide +kernel)
 have h1 : x % qQ < qQ := q172 x (by decide +kernel)
 have hp : qQ < ((256 ^ 32 : Nat) : Int) := by decide +kernel
 unfold nq
 rw [zea, q120, Int.toNat_of_nonneg h0]
 have : ((x % qQ).toNat : Int) < ((256 ^ 32 : Nat) : Int) := by
  rw [Int.toNat_of_nonneg h0]
  exact Int.lt_trans h1 hp
 exact Int.ofNat_lt.1 this
theorem nq_self (l : List UInt8) (hl : l.length = 32) : nq (leN l : Nat) = l ↔ (leN l : Int) < qQ := by
 have hq : 0 < qQ := qQ_pos
 constructor
 ·intro h
  have := nq_val (leN l : Nat)
  rw [h] at this
  rw [this]
  exact q172 _ hq
 ·intro h
  unfold nq
  rw [q171 (by omega) h, Int.toNat_natCast, ← hl]
  exact zfa l
def lessB (l : List UInt8) : Bool := decide ((leN l : Int) < qQ)
theorem lessB_eq (l : List UInt8) (hl : l.length = 32) : decide (nq (leN l : Nat) = l) = lessB l := by
 unfold lessB
 rw [Bool.eq_iff_iff, decide_eq_true_iff, decide_eq_true_iff]
 exact nq_self l hl
theorem lessB_nq (x : Int) : lessB (nq x) = true := by
 unfold lessB
 rw [decide_eq_true_iff, nq_val]
 exact q172 _ qQ_pos
theorem qB_q : ((qB : Nat) : Int) = qQ := by decide +kernel
theorem leN_nq (x : Nat) : leN (nq (x : Int)) = x % qB := by
 have h := nq_val (x : Int)
 rw [← qB_q] at h
 omega
def encB (P : Pt) : List UInt8 := bytesN 32 (enc P)
theorem zbw (P : Pt) : (encB P).length = 32 := zav _ _
theorem leN_encB (P : Pt) : leN (encB P) = enc P := by
 unfold encB
 rw [zea, q120 (Nat.lt_of_lt_of_eq (enc_lt P) (by decide +kernel))]
theorem encB_inj {P Q : Pt} (h : encB P = encB Q) : P = Q := enc_inj (by rw [← leN_encB, ← leN_encB, h])
def secA (s : List UInt8) : List UInt8 := clampB ((sha512 s).take 32)
def secH (s : List UInt8) : List UInt8 := (sha512 s).drop 32
def wideB (m : List UInt8) : List UInt8 := nq (leN (sha512 m) : Nat)
theorem zcd (m : List UInt8) : (wideB m).length = 32 := zbu _
def edPub (s : List UInt8) : List UInt8 := encB (pmul (leN (secA s)) bP)
theorem edPub_length (s : List UInt8) : (edPub s).length = 32 := zbw _
def edNum (s m : List UInt8) : List UInt8 := wideB (secH s ++ m)
def edR (s m : List UInt8) : List UInt8 := encB (pmul (leN (edNum s m)) bP)
theorem edR_length (s m : List UInt8) : (edR s m).length = 32 := zbw _
def edS (s m : List UInt8) : List UInt8 := nq ((leN (edNum s m) : Nat) + (leN (nq ((leN (wideB (edR s m ++ (edPub s ++ m))) : Nat) * (leN (secA s) : Nat))) : Nat))
theorem edS_length (s m : List UInt8) : (edS s m).length = 32 := zbu _
def edSign (s m : List UInt8) : List UInt8 := edR s m ++ edS s m
theorem zdn (s m : List UInt8) : (edSign s m).length = 64 := by
 unfold edSign
 rw [q108, edR_length, edS_length]
def edMay (n : List UInt8) : Prop := ∃ P, encB P = n
def edVer (key g m : List UInt8) : Prop := lessB (g.drop 32) = true ∧ ∃ A R, encB A = key ∧ encB R = g.take 32 ∧ pmul (leN (g.drop 32)) bP = padd R (pmul (leN (wideB (g.take 32 ++ (key ++ m)))) A)
theorem edVer_of {key g m : List UInt8} {A R : Pt} (hA : encB A = key) (hR : encB R = g.take 32) : edVer key g m ↔ lessB (g.drop 32) = true ∧ pmul (leN (g.drop 32)) bP = padd R (pmul (leN (wideB (g.take 32 ++ (key ++ m)))) A) := by
 constructor
 ·rintro ⟨h1, A', R', h2, h3, h4⟩
  obtain rfl := encB_inj (h2.trans hA.symm)
  obtain rfl := encB_inj (h3.trans hR.symm)
  exact ⟨h1, h4⟩
 ·rintro ⟨h1, h4⟩
  exact ⟨h1, A, R, hA, hR, h4⟩
theorem sign_take (s m : List UInt8) : (edSign s m).take 32 = edR s m := by
 unfold edSign
 rw [q161 (by rw [edR_length]; omega), q110 (by rw [edR_length]; omega)]
theorem sign_drop (s m : List UInt8) : (edSign s m).drop 32 = edS s m := by
 unfold edSign
 rw [List.drop_append, q162 (by rw [edR_length]; omega), q118, edR_length, q152, List.drop_zero]
theorem leN_edS (s m : List UInt8) : leN (edS s m) = (leN (edNum s m) + leN (wideB (edR s m ++ (edPub s ++ m))) * leN (secA s)) % qB := by
 unfold edS
 rw [← Int.natCast_mul, leN_nq, ← Int.natCast_add, leN_nq, Nat.add_mod_mod]
theorem ver_sign (s m : List UInt8) : edVer (edPub s) (edSign s m) m := by
 rw [edVer_of (A := pmul (leN (secA s)) bP) (R := pmul (leN (edNum s m)) bP) (show encB _ = edPub s from rfl) (by rw [sign_take]; rfl), sign_take, sign_drop]
 refine ⟨lessB_nq _, ?_⟩
 rw [leN_edS]
 exact sign_holds _ _ _
theorem may_pub (s : List UInt8) : edMay (edPub s) := ⟨_, rfl⟩
theorem ver_great {key g m : List UInt8} (h : lessB (g.drop 32) = false) : ¬ edVer key g m := by
 rintro ⟨h1, _⟩
 rw [h] at h1
 exact absurd h1 (by decide)
theorem getD_set_self (l : List UInt8) (i : Nat) (v : UInt8) (h : i < l.length) : (l.set i v).getD i 0 = v := by
 rw [List.getD_eq_getElem?_getD, List.getElem?_set_self h]
 rfl
theorem may_above {l : List UInt8} (h : pN ≤ leN l % 2 ^ 255) : ¬ edMay l := by
 rintro ⟨P, rfl⟩
 rw [leN_encB, enc_y] at h
 have := P.y.isLt
 omega
noncomputable def mayB (n : List UInt8) : Bool := @decide (edMay n) (Classical.propDecidable _)
noncomputable def verB (key g m : List UInt8) : Bool := @decide (edVer key g m) (Classical.propDecidable _)
theorem zef {n : List UInt8} (h : edMay n) : mayB n = true := @decide_eq_true _ (Classical.propDecidable _) h
theorem zew {n : List UInt8} (h : ¬ edMay n) : mayB n = false := @decide_eq_false _ (Classical.propDecidable _) h
theorem verB_true {k g m : List UInt8} (h : edVer k g m) : verB k g m = true := @decide_eq_true _ (Classical.propDecidable _) h
theorem zeu {k g m : List UInt8} (h : ¬ edVer k g m) : verB k g m = false := @decide_eq_false _ (Classical.propDecidable _) h
theorem is_x {s : ES} {P : Pt} (h : s.is P) : s.x * fi s.z = P.x := by
 obtain ⟨h0, h1, h2, h3⟩ := h
 rw [h1, Fin.mul_assoc, f_inv h0, Fin.mul_one]
theorem is_y {s : ES} {P : Pt} (h : s.is P) : s.y * fi s.z = P.y := by
 obtain ⟨h0, h1, h2, h3⟩ := h
 rw [h2, Fin.mul_assoc, f_inv h0, Fin.mul_one]
theorem leN_set : ∀ (l : List UInt8) (i : Nat) (z : UInt8), i < l.length → leN (l.set i z) + 256 ^ i * (l.getD i 0).toNat = leN l + 256 ^ i * z.toNat
 | [], i, z, h => by simp at h
 | a :: l, 0, z, h => by
  simp only [List.set_cons_zero, leN, List.getD_cons_zero, Nat.pow_zero, Nat.one_mul]
  omega
 | a :: l, i + 1, z, h => by
  have ih := leN_set l i z (by simpa using h)
  simp only [List.set_cons_succ, leN, List.getD_cons_succ, q128]
  have e1 : 256 ^ i * 256 * (l.getD i 0).toNat = 256 * (256 ^ i * (l.getD i 0).toNat) := by rw [q129 (256 ^ i) 256, Nat.mul_assoc]
  have e2 : 256 ^ i * 256 * z.toNat = 256 * (256 ^ i * z.toNat) := by rw [q129 (256 ^ i) 256, Nat.mul_assoc]
  rw [e1, e2]
  omega
theorem u8_or128 (b : UInt8) (h : b.toNat < 128) : (b ||| 128).toNat = b.toNat + 128 := by
 have hh : ∀ n : Fin 128, ((UInt8.ofNat n.val) ||| 128).toNat = n.val + 128 := by decide +kernel
 have := hh ⟨b.toNat, h⟩
 simpa using this
theorem set_high {f : Fp} : (nbF f).set 31 ((nbF f).getD 31 0 ||| 128) = bytesN 32 (f.val + 2 ^ 255) := by
 have hl := zae f
 have h1 := leN_set (nbF f) 31 ((nbF f).getD 31 0 ||| 128) (by omega)
 rw [u8_or128 _ (nbF_top f)] at h1
 have h2 : leN (nbF f) = f.val := by
  unfold nbF
  rw [zea, q120 (Nat.lt_trans f.isLt (by decide +kernel))]
 have e : (256 : Nat) ^ 31 * 128 = 2 ^ 255 := by decide +kernel
 rw [Nat.mul_add, e, h2] at h1
 have h3 : leN ((nbF f).set 31 ((nbF f).getD 31 0 ||| 128)) = f.val + 2 ^ 255 := by omega
 have h4 := zfa ((nbF f).set 31 ((nbF f).getD 31 0 ||| 128))
 rw [h3, q154, hl] at h4
 exact h4.symm
theorem nbF_odd (f : Fp) : ((nbF f).getD 0 0).toNat % 2 = f.val % 2 := by
 unfold nbF
 rw [zdd 32 f.val 0 (by omega)]
 omega
theorem enc_odd {P : Pt} (h : P.x.val % 2 = 1) : (nbF P.y).set 31 ((nbF P.y).getD 31 0 ||| 128) = encB P := by
 rw [set_high]
 unfold encB enc
 rw [h, Nat.mul_one]
theorem enc_even {P : Pt} (h : P.x.val % 2 = 0) : (nbF P.y).set 31 ((nbF P.y).getD 31 0 ||| 0) = encB P := by
 rw [UInt8.or_zero]
 have e : (nbF P.y).set 31 ((nbF P.y).getD 31 0) = nbF P.y := by
  have := mask_id (zae P.y) (nbF_top P.y)
  unfold maskB at this
  rwa [u8_mask _ (nbF_top P.y)] at this
 rw [e]
 unfold encB enc
 rw [h, Nat.mul_zero, Nat.add_zero]
 rfl
def yB (n : List UInt8) : List UInt8 := maskB n
def bitN (n : List UInt8) : Nat := (n.getD 31 0).toNat / 128
theorem bitN_lt (n : List UInt8) : bitN n < 2 := by
 have := (n.getD 31 0).toNat_lt
 unfold bitN
 omega
theorem u8_and127 (b : UInt8) : (b &&& 127).toNat + 128 * (b.toNat / 128) = b.toNat := by
 have hh : ∀ n : Fin 256, ((UInt8.ofNat n.val) &&& 127).toNat + 128 * (n.val / 128) = n.val := by decide +kernel
 have := hh ⟨b.toNat, b.toNat_lt⟩
 simpa using this
theorem leN_y {n : List UInt8} (h : n.length = 32) : leN n = leN (yB n) + 2 ^ 255 * bitN n := by
 have h1 := leN_set n 31 (n.getD 31 0 &&& 127) (by omega)
 have h2 := u8_and127 (n.getD 31 0)
 have e : (256 : Nat) ^ 31 * 128 = 2 ^ 255 := by decide +kernel
 unfold yB maskB bitN
 rw [← e, Nat.mul_assoc]
 rw [← h2, Nat.mul_add] at h1
 omega
theorem leN_yB_lt {n : List UInt8} (h : n.length = 32) : leN (yB n) < 2 ^ 255 := by
 refine leN_top (maskB_length h) ?_
 unfold yB maskB
 rw [getD_set_self _ 31 _ (by omega)]
 have hh : ∀ m : Fin 256, ((UInt8.ofNat m.val) &&& 127).toNat < 128 := by decide +kernel
 have := hh ⟨(n.getD 31 0).toNat, (n.getD 31 0).toNat_lt⟩
 simpa using this
theorem may_no_y {n : List UInt8} (h : n.length = 32) (hp : pN ≤ leN (yB n)) : ¬ edMay n := by
 refine may_above ?_
 rw [leN_y h, Nat.add_mul_mod_self_left, q120 (leN_yB_lt h)]
 exact hp
theorem fp_y {n : List UInt8} (hp : leN (yB n) < pN) : (fp ((leN (yB n) : Nat) : Int)).val = leN (yB n) := by
 rw [fp_val]
 have e : pP = ((pN : Nat) : Int) := by decide +kernel
 rw [e, ← Int.natCast_emod, Int.toNat_natCast, q120 hp]
theorem may_no_root {n : List UInt8} (h : n.length = 32) (hp : leN (yB n) < pN) (hr : ∀ x : Fp, x * x ≠ rad (fp ((leN (yB n) : Nat) : Int))) : ¬ edMay n := by
 rintro ⟨P, rfl⟩
 refine no_point (y := fp ((leN (yB (encB P)) : Nat) : Int)) (bitN_lt (encB P)) (fun x hx => absurd hx (hr x)) P ?_
 rw [fp_y hp, ← leN_y h, leN_encB]
theorem may_no_bit {n : List UInt8} (h : n.length = 32) (hp : leN (yB n) < pN) (hb : bitN n = 1) (hr : rad (fp ((leN (yB n) : Nat) : Int)) = 0) : ¬ edMay n := by
 rintro ⟨P, rfl⟩
 refine no_point (y := fp ((leN (yB (encB P)) : Nat) : Int)) (bitN_lt (encB P)) (fun x hx => ⟨?_, hb⟩) P ?_
 ·rw [hr] at hx
  rcases f_dom hx with h | h <;> exact h
 ·rw [fp_y hp, ← leN_y h, leN_encB]
theorem read_enc {n : List UInt8} (h : n.length = 32) (hp : leN (yB n) < pN) {x : Fp} (hx : x * x = rad (fp ((leN (yB n) : Nat) : Int))) (h0 : ¬ (x = 0 ∧ bitN n = 1)) : encB (readP x (fp ((leN (yB n) : Nat) : Int)) (bitN n) hx) = n := by
 unfold encB
 rw [readP_enc hx (bitN_lt n) h0, fp_y hp, ← leN_y h]
 have := zfa n
 rwa [h] at this
def ES.dbl (p : ES) : ES :=
 let x := p.x * p.x
 let y := p.y * p.y
 let both := (p.x + p.y) * (p.x + p.y)
 let more := y + x
 let less := y - x
 let z := p.z * p.z + p.z * p.z
 ⟨(both - more) * (z - less), more * less, less * (z - less), (both - more) * more⟩
def ES.neg (p : ES) : ES := ⟨0 - p.x, p.y, p.z, 0 - p.t⟩
def pkF (s : Bool) (f g : Fp) : Fp := if s then g else f
def ES.pk (s : Bool) (p q : ES) : ES := ⟨pkF s p.x q.x, pkF s p.y q.y, pkF s p.z q.z, pkF s p.t q.t⟩
theorem ES.pk_true (p q : ES) : ES.pk true p q = q := rfl
theorem ES.pk_false (p q : ES) : ES.pk false p q = p := rfl
theorem ES.is.neg {p : ES} {P : Pt} (hp : p.is P) : p.neg.is (pneg P) := by
 obtain ⟨hz, hx, hy, ht⟩ := hp
 refine ⟨hz, ?_, hy, ?_⟩
 ·show 0 - p.x = -P.x * p.z
  rw [hx]
  clear hx hy ht hz
  grind
 ·show 0 - p.t = -P.x * P.y * p.z
  rw [ht]
  clear hx hy ht hz
  grind
theorem crvdbl_core {u v z d x3 y3 : Fp} (hon : v * v - u * u = 1 + d * (u * u * (v * v))) (hx : x3 * (1 + d * (u * u * (v * v))) = u * v + u * v) (hy : y3 * (1 - d * (u * u * (v * v))) = v * v + u * u) :
  let x := u * z * (u * z)
  let y := v * z * (v * z)
  let both := (u * z + v * z) * (u * z + v * z)
  let more := y + x
  let less := y - x
  let e := z * z + z * z
  (both - more) = x3 * less ∧ more = y3 * (e - less) ∧ less = z * z * (1 + d * (u * u * (v * v))) ∧ (e - less) = z * z * (1 - d * (u * u * (v * v))) := by
 intro x y both more less e
 have hl : less = z * z * (1 + d * (u * u * (v * v))) := by
  show v * z * (v * z) - u * z * (u * z) = _
  refine lin (z * z) hon ?_
  clear hon hx hy
  grind
 have hm : e - less = z * z * (1 - d * (u * u * (v * v))) := by
  show z * z + z * z - less = _
  rw [hl]
  clear hon hx hy hl
  grind
 refine ⟨?_, ?_, hl, hm⟩
 ·rw [hl]
  have r : x3 * (z * z * (1 + d * (u * u * (v * v)))) = z * z * (x3 * (1 + d * (u * u * (v * v)))) := by clear hon hx hy hl hm; grind
  rw [r, hx]
  show (u * z + v * z) * (u * z + v * z) - (v * z * (v * z) + u * z * (u * z)) = _
  clear hon hx hy hl hm r
  grind
 ·rw [hm]
  have r : y3 * (z * z * (1 - d * (u * u * (v * v)))) = z * z * (y3 * (1 - d * (u * u * (v * v)))) := by clear hon hx hy hl hm; grind
  rw [r, hy]
  show v * z * (v * z) + u * z * (u * z) = _
  clear hon hx hy hl hm r
  grind
theorem ext_dbl {P : Pt} {X Y Z T : Fp} (h : PX P X Y Z T) :
  let x := X * X
  let y := Y * Y
  let both := (X + Y) * (X + Y)
  let more := y + x
  let less := y - x
  let z := Z * Z + Z * Z
  PX (padd P P) ((both - more) * (z - less)) (more * less) (less * (z - less)) ((both - more) * more) := by
 obtain ⟨hz, hx, hy, ht⟩ := h
 subst hx hy ht
 intro x y both more less z
 have hon := P.on
 unfold On at hon
 have px := padd_x P P
 have py := padd_y P P
 obtain ⟨k1, k2, k3, k4⟩ := crvdbl_core (z := Z) hon px py
 have n1 : less ≠ 0 := by
  show P.y * Z * (P.y * Z) - P.x * Z * (P.x * Z) ≠ 0
  rw [k3]
  exact zci (zci hz hz) (on_plus P.on P.on)
 have n2 : z - less ≠ 0 := by
  show Z * Z + Z * Z - (P.y * Z * (P.y * Z) - P.x * Z * (P.x * Z)) ≠ 0
  rw [k4]
  exact zci (zci hz hz) (on_minus P.on P.on)
 have m1 : both - more = (padd P P).x * less := k1
 have m2 : more = (padd P P).y * (z - less) := k2
 clear k1 k2 k3 k4 px py hon
 unfold PX
 generalize (padd P P).x = a at *
 generalize (padd P P).y = b at *
 generalize both - more = h at *
 generalize hmo : more = i at *
 generalize z - less = f at *
 generalize hle : less = g at *
 clear hmo hle
 clear x y both more less z
 subst m1 m2
 refine ⟨zci n1 n2, ?_, ?_, ?_⟩
 ·clear n1 n2 hz; grind
 ·clear n1 n2 hz; grind
 ·clear n1 n2 hz; grind
theorem ES.is.dbl {p : ES} {P : Pt} (hp : p.is P) : p.dbl.is (padd P P) := ext_dbl hp
def crun (p : ES) (n : Nat) : Nat → ES
 | 0 => esZero
 | t + 1 => ES.pk (n.testBit (254 - t)) (crun p n t).dbl ((crun p n t).dbl.sum p)
theorem shr_step (n m : Nat) : n >>> m = 2 * (n >>> (m + 1)) + (n.testBit m).toNat := by
 rw [Nat.shiftRight_succ, Nat.testBit_eq_decide_div_mod_eq, ← Nat.shiftRight_eq_div_pow]
 generalize n >>> m = k
 by_cases h : k % 2 = 1
 ·rw [decide_eq_true h]
  show k = 2 * (k / 2) + 1
  omega
 ·rw [decide_eq_false h]
  show k = 2 * (k / 2) + 0
  omega
theorem shr_top {n m : Nat} (h : n < 2 ^ m) : n >>> m = 0 := by
 rw [Nat.shiftRight_eq_div_pow]
 exact q157 h
theorem crun_is {p : ES} {P : Pt} (hp : p.is P) {n : Nat} (hn : n < 2 ^ 255) : ∀ t, t ≤ 255 → (crun p n t).is (pmul (n >>> (255 - t)) P)
 | 0, _ => by
  rw [Nat.sub_zero, shr_top hn]
  exact esZero_is
 | t + 1, h => by
  have ih := crun_is hp hn t (by omega)
  have e1 : 255 - (t + 1) = 254 - t := by omega
  have e2 : 255 - t = 254 - t + 1 := by omega
  rw [e2] at ih
  rw [e1, shr_step]
  have hd := ih.dbl
  rw [← pmul_two] at hd
  show (ES.pk (n.testBit (254 - t)) (crun p n t).dbl ((crun p n t).dbl.sum p)).is _
  cases hb : n.testBit (254 - t)
  ·rw [ES.pk_false]; exact hd
  ·rw [ES.pk_true]; exact hd.sum hp
theorem crun_full {p : ES} {P : Pt} (hp : p.is P) {n : Nat} (hn : n < 2 ^ 255) : (crun p n 255).is (pmul n P) := by
 have := crun_is hp hn 255 (q102 _)
 rwa [q152, Nat.shiftRight_zero] at this
def tstep (p q r : ES) (a b : Bool) : ES := if a then (if b then r.sum (p.sum q) else r.sum p) else (if b then r.sum q else r)
def trun (p q : ES) (m n : Nat) : Nat → ES
 | 0 => esZero
 | t + 1 => tstep p q (trun p q m n t).dbl (m.testBit (254 - t)) (n.testBit (254 - t))
theorem trun_is {p q : ES} {P Q : Pt} (hp : p.is P) (hq : q.is Q) {m n : Nat} (hm : m < 2 ^ 255) (hn : n < 2 ^ 255) : ∀ t, t ≤ 255 → (trun p q m n t).is (padd (pmul (m >>> (255 - t)) P) (pmul (n >>> (255 - t)) Q))
 | 0, _ => by
  rw [Nat.sub_zero, shr_top hn, shr_top hm, pmul_zero, pmul_zero, zfh]
  exact esZero_is
 | t + 1, h => by
  have ih := trun_is hp hq hm hn t (by omega)
  have e1 : 255 - (t + 1) = 254 - t := by omega
  have e2 : 255 - t = 254 - t + 1 := by omega
  rw [e2] at ih
  rw [e1, shr_step m, shr_step n]
  have hd := ih.dbl
  have hd2 : (trun p q m n t).dbl.is (padd (pmul (2 * (m >>> (254 - t + 1))) P) (pmul (2 * (n >>> (254 - t + 1))) Q)) := by
   rw [pmul_two, pmul_two]
   generalize pmul (m >>> (254 - t + 1)) P = A at *
   generalize pmul (n >>> (254 - t + 1)) Q = B at *
   have e : padd (padd A A) (padd B B) = padd (padd A B) (padd A B) := by
    rw [zcr, zcr A B, padd_left_comm A B B]
   rw [e]
   exact hd
  clear hd ih
  show (tstep p q (trun p q m n t).dbl (m.testBit (254 - t)) (n.testBit (254 - t))).is _
  generalize (trun p q m n t).dbl = r at *
  generalize 2 * (m >>> (254 - t + 1)) = a at *
  generalize 2 * (n >>> (254 - t + 1)) = b at *
  cases m.testBit (254 - t) <;> cases n.testBit (254 - t)
  ·exact hd2
  ·have h1 := hd2.sum hq
   rw [zcr, ← zee] at h1
   exact h1
  ·have h1 := hd2.sum hp
   rw [padd_comm, ← zcr, padd_comm P, ← zee] at h1
   exact h1
  ·have h1 := hd2.sum (hp.sum hq)
   have e : padd (padd (pmul a P) (pmul b Q)) (padd P Q) = padd (pmul (a + 1) P) (pmul (b + 1) Q) := by
    rw [zee, zee, zcr, zcr, padd_left_comm (pmul b Q)]
   rw [e] at h1
   exact h1
theorem trun_full {p q : ES} {P Q : Pt} (hp : p.is P) (hq : q.is Q) {m n : Nat} (hm : m < 2 ^ 255) (hn : n < 2 ^ 255) : (trun p q m n 255).is (padd (pmul m P) (pmul n Q)) := by
 have := trun_is hp hq hm hn 255 (q102 _)
 rwa [q152, Nat.shiftRight_zero, Nat.shiftRight_zero] at this
def encS (s : ES) : List UInt8 := (nbF (s.y * fi s.z)).set 31 ((nbF (s.y * fi s.z)).getD 31 0 ||| ((nbF (s.x * fi s.z)).getD 0 0 <<< 7))
theorem u8_shl7 (b : UInt8) : b <<< 7 = if b.toNat % 2 = 1 then 128 else 0 := by
 have hh : ∀ n : Fin 256, (UInt8.ofNat n.val) <<< 7 = if n.val % 2 = 1 then 128 else 0 := by decide +kernel
 have := hh ⟨b.toNat, b.toNat_lt⟩
 simpa using this
theorem encS_is {s : ES} {P : Pt} (h : s.is P) : encS s = encB P := by
 unfold encS
 rw [is_x h, is_y h, u8_shl7, nbF_odd]
 by_cases hp : P.x.val % 2 = 1
 ·rw [if_pos hp]
  exact enc_odd hp
 ·rw [if_neg hp]
  exact enc_even (by omega)
theorem encS_length (s : ES) : (encS s).length = 32 := by
 unfold encS
 rw [q154, zae]
noncomputable def decE (n : List UInt8) : ES := @dite _ (edMay n) (Classical.propDecidable _) (fun h => (Classical.choose h).es) (fun _ => ⟨0, 0, 0, 0⟩)
theorem decE_enc (P : Pt) : decE (encB P) = P.es := by
 have h : edMay (encB P) := ⟨P, rfl⟩
 have e := encB_inj (Classical.choose_spec h)
 unfold decE
 rw [dif_pos h, e]
theorem decE_not {n : List UInt8} (h : ¬ edMay n) : decE n = ⟨0, 0, 0, 0⟩ := by
 unfold decE
 rw [dif_neg h]
theorem decE_of {n : List UInt8} {P : Pt} (h : encB P = n) : decE n = P.es := by rw [← h, decE_enc]
theorem pneg_pzero : pneg pzero = pzero := (pneg_of (by rw [zfh])).symm
theorem pneg_padd (P Q : Pt) : pneg (padd P Q) = padd (pneg P) (pneg Q) := by
 refine (pneg_of ?_).symm
 rw [zcr, padd_left_comm Q, padd_neg, zfh, padd_neg]
theorem pmul_neg (P : Pt) : ∀ n, pmul n (pneg P) = pneg (pmul n P)
 | 0 => by rw [pmul_zero, pmul_zero, pneg_pzero]
 | n + 1 => by rw [zee, zee, pmul_neg P n, pneg_padd]
theorem padd_move {X Y R : Pt} : padd X (pneg Y) = R ↔ X = padd R Y := by
 constructor
 ·rintro rfl
  rw [zcr, padd_comm (pneg Y), padd_neg, zfh]
 ·rintro rfl
  rw [zcr, padd_neg, zfh]
theorem ver_code {key g m : List UInt8} {A : Pt} (hA : encB A = key) :
  edVer key g m ↔ lessB (g.drop 32) = true ∧ encB (padd (pmul (leN (g.drop 32)) bP) (pmul (leN (wideB (g.take 32 ++ (key ++ m)))) (pneg A))) = g.take 32 := by
 constructor
 ·rintro ⟨h1, A', R, h2, h3, h4⟩
  obtain rfl := encB_inj (h2.trans hA.symm)
  refine ⟨h1, ?_⟩
  rw [pmul_neg, padd_move.2 h4, h3]
 ·rintro ⟨h1, h2⟩
  refine ⟨h1, A, _, hA, h2, ?_⟩
  rw [pmul_neg]
  exact padd_move.1 rfl
theorem ver_no_key {key g m : List UInt8} (h : ¬ edMay key) : ¬ edVer key g m := by
 rintro ⟨_, A, R, hA, _⟩
 exact h ⟨A, hA⟩
def F32 (l : List UInt8) (f : Fp) : Prop := l.length = 32 ∧ fp (leN l) = f
theorem leN_nbF (f : Fp) : leN (nbF f) = f.val := by
 have h2 := zea 32 f.val
 have h3 : f.val < 256 ^ 32 := Nat.lt_trans f.isLt (by decide +kernel)
 rw [q120 h3] at h2
 exact h2
theorem F32.nb (f : Fp) : F32 (nbF f) f := ⟨zae f, by rw [leN_nbF, zdm]⟩
def pkL (s : Bool) (a b : List UInt8) : List UInt8 := if s then b else a
theorem nb_nbF (x : Int) : numP x = .agg ((nbF (fp x)).map bval).toArray := rfl
theorem nbF_inj {f g : Fp} (h : nbF f = nbF g) : f = g := by
 have h1 := congrArg leN h
 rw [leN_nbF, leN_nbF] at h1
 exact Fin.ext h1
section
section
variable {P : Program} {ops : Array Oper} {Q : Exit → Act → World → Prop} {md : Region.Mode} {t : Nat} {C : World → Prop} {D : Act → Prop}
theorem det_loadk {o : Oper} {rest : List Oper} {a : Act} (ty : TypeId) (x : Operand) (c k : Nat) (cs : List Value) (d : TypeDesc) (hw : Region.wanted o (yielded ops a.tmps) = true) (ho : o.op = .load ty x)
  (hx : a.eval x = .pointer (some ⟨c, k, none⟩)) (hC : ∀ w, C w → w.rangeAt c k cs) (hu : P.underlying ty = some d) (hd : d.isRow = true) (hi : (P.info? ty).map (·.size) = some cs.length)
  (next : wpDet P ops C D rest (a.put o.dst (.agg cs.toArray))) : wpDet P ops C D (o :: rest) a := by
 rcases yieldsIf_load_mid (S := C) hw ty x ho c k hx cs d hC hu hd hi with ⟨_, h⟩ | ⟨h, _⟩
 ·exact zaw _ hw h next
 ·rw [hw] at h; cases h
theorem zbd {o : Oper} {rest : List Oper} {a : Act} (ty : TypeId) (x : Operand) (c f i j : Nat) (hw : Region.wanted o (yielded ops a.tmps) = true) (ho : o.op = .fieldAddr ty x f) (hx : a.eval x = .pointer (some ⟨c, i, none⟩))
  (hr : ∀ w, (Instr.fieldAt ty (.pointer (some ⟨c, i, none⟩)) f).run P w = .ok (.pointer (some ⟨c, j, none⟩)) w)
  (next : wpDet P ops C D rest (a.put o.dst (.pointer (some ⟨c, j, none⟩)))) : wpDet P ops C D (o :: rest) a :=
 zaw _ hw (fun w _ => by unfold execOp; simp only [ho, hx, Sem.run_bind, hr, Result.andThen_ok, Sem.run_pure]) next
theorem zei {o : Oper} {rest : List Oper} {a : Act} (ty : TypeId) (parts : Array (Nat × Operand)) (vs : Array (Nat × Value)) (v : Value) (hw : Region.wanted o (yielded ops a.tmps) = true) (ho : o.op = .build ty parts)
  (hp : parts.map (fun (i, x) => (i, a.eval x)) = vs) (hr : ∀ w, (Instr.build ty vs).run P w = .ok v w)
  (next : wpDet P ops C D rest (a.put o.dst v)) : wpDet P ops C D (o :: rest) a :=
 zaw v hw (fun w _ => by
  subst hp
  unfold execOp
  simp only [ho, Sem.run_bind, hr, Result.andThen_ok, Sem.run_pure]) next
theorem det_eqi {o : Oper} {rest : List Oper} {a : Act} (k : IntKind) (ty rt : TypeId) (x y : Operand) (b c : Int) (r : Bool) (hw : Region.wanted o (yielded ops a.tmps) = true) (ho : o.op = .binOp .eql ty x y rt) (hx : a.eval x = .int k b) (hy : a.eval y = .int k c) (hr : decide (b = c) = r)
  (next : wpDet P ops C D rest (a.put o.dst (.bool r))) : wpDet P ops C D (o :: rest) a :=
 zaw _ hw (fun w _ => by
  subst hr
  unfold execOp
  simp only [ho, hx, hy]
  simp [eqGuard, binOp, Op.intCmp, Result.andThen]
  try rw [Bool.eq_iff_iff]; simp) next
end
theorem rng_lo {w : World} {c o : Nat} {a b : List Value} (h : w.rangeAt c o (a ++ b)) : w.rangeAt c o a := fun j v hj => by
 have hjl : j < a.length := by
  rcases q116 j a.length with h' | h'
  ·exact h'
  ·rw [List.getElem?_eq_none h'] at hj; cases hj
 exact h j v (by rw [List.getElem?_append_left hjl]; exact hj)
theorem rng_hi {w : World} {c o m k : Nat} {a b : List Value} (h : w.rangeAt c o (a ++ b)) (hm : a.length = m) (hk : o + m = k) : w.rangeAt c k b := fun j v hj => by
 have e := h (m + j) v (by rw [List.getElem?_append_right (by omega), ← hm, Nat.add_sub_cancel_left]; exact hj)
 rw [← Nat.add_assoc, hk] at e
 exact e
end
section
theorem xb {w w' : World} {c : Nat} {l : List Value} {t : TypeId} (H : Hid (Blk w c l t)) (h : Ext w w') : Hid (Blk w' c l t) := jh (zad H.out h)
theorem xt {w a b : World} (H : Hid (Ext w a)) (h : Ext a b) : Hid (Ext w b) := jh (H.out.trans h)
theorem ssb {P : Program} {w : World} {ops : Array Oper} {rest : List Oper} {o : Oper} {a : Act} {Q : Exit → Act → World → Prop} {ty : TypeId} {x y : Operand} {t : TypeId} {cs : List Value} (c : Nat) (vs : List Value) (hb : Blk w c cs t) (hl : vs.length = cs.length) (hi : (P.info? ty).map (·.size) = some vs.length) (h1 : ∀ v ∈ vs, v.oneCell' = true)
  (h : ∀ w', Blk w' c vs t → w.grownBy w' (some c) → wpList P ops Q rest (a.put o.dst undef) w') (hgd : o.guard = none := by rfl) (ho : o.op = .store ty x y := by rfl) (hx : a.eval x = .pointer (some ⟨c, 0, none⟩) := by rfl) (hy : a.eval y = .agg vs.toArray := by rfl) : wpList P ops Q (o :: rest) a w :=
 zbe hgd ty x y ho c vs hx hy t cs hb hl hi h1 h
theorem slb {P : Program} {w : World} {ops : Array Oper} {rest : List Oper} {o : Oper} {a : Act} {Q : Exit → Act → World → Prop} {ty : TypeId} {x : Operand} {t : TypeId} {cs : List Value} {n : Nat} {e : TypeId} (c : Nat) (hb : Blk w c cs t) (hu : P.underlying ty = some (.array n e)) (hi : (P.info? ty).map (·.size) = some cs.length)
  (h : wpList P ops Q rest (a.put o.dst (.agg cs.toArray)) w) (hgd : o.guard = none := by rfl) (ho : o.op = .load ty x := by rfl) (hx : a.eval x = .pointer (some ⟨c, 0, none⟩) := by rfl) : wpList P ops Q (o :: rest) a w :=
 zbh hgd ty x ho c hx t cs n e hb hu hi h
theorem sld {P : Program} {ops : Array Oper} {S : World → Prop} {op : Oper} {a : Act} {ty : TypeId} {x : Operand} {cs : List Value} {d : TypeDesc} (b o : Nat) (hS : ∀ w, S w → w.rangeAt b o cs) (hu : P.underlying ty = some d) (hi : (P.info? ty).map (·.size) = some cs.length)
  (hw : Region.wanted op (yielded ops a.tmps) = true := by rfl) (ho : op.op = .load ty x := by rfl) (hx : a.eval x = .pointer (some ⟨b, o, none⟩) := by rfl) (hd : d.isRow = true := by rfl) : YieldsIf P ops S op (.agg cs.toArray) a :=
 yieldsIf_load_mid hw ty x ho b o hx cs d hS hu hd hi
section
variable {P : Program} {ops : Array Oper} {C : World → Prop} {D : Act → Prop} {o : Oper} {rest : List Oper} {a : Act}
theorem sdc {f : FuncId} {bs : Array Operand} {ts : Array TypeId} (args : List Value) (v : Value) (hen : ∀ args w, (callFunc f args).run P w = .ok (.enter f args) w) (hc : ∀ w, C w → Calls P f args.toArray w fun e w' => e = .returned v ∧ Below w.heap.size w w') (next : wpDet P ops C D rest (a.put o.dst v))
  (hw : Region.wanted o (yielded ops a.tmps) = true := by rfl) (ho : o.op = .call { callee := .value (.func f), args := bs, argTypes := ts } := by rfl) (ha : bs.toList.map a.eval = args := by rfl) : wpDet P ops C D (o :: rest) a :=
 det_call f bs ts args v hw ho hen ha hc next
theorem sdk {ty : TypeId} {x : Operand} {d : TypeDesc} (c k : Nat) (cs : List Value) (hC : ∀ w, C w → w.rangeAt c k cs) (hu : P.underlying ty = some d) (hi : (P.info? ty).map (·.size) = some cs.length) (next : wpDet P ops C D rest (a.put o.dst (.agg cs.toArray)))
  (hw : Region.wanted o (yielded ops a.tmps) = true := by rfl) (ho : o.op = .load ty x := by rfl) (hx : a.eval x = .pointer (some ⟨c, k, none⟩) := by rfl) (hd : d.isRow = true := by rfl) : wpDet P ops C D (o :: rest) a :=
 det_loadk ty x c k cs d hw ho hx hC hu hd hi next
theorem sdl {ty : TypeId} {x : Operand} (c k : Nat) (v : Value) (hC : ∀ w, C w → w.cell? ⟨c, k, none⟩ = some v) (ha : ∀ w, (isAgg ty).run P w = .ok false w) (next : wpDet P ops C D rest (a.put o.dst v))
  (hw : Region.wanted o (yielded ops a.tmps) = true := by rfl) (ho : o.op = .load ty x := by rfl) (hx : a.eval x = .pointer (some ⟨c, k, none⟩) := by rfl) : wpDet P ops C D (o :: rest) a :=
 det_cell ty x c k v hw ho hx hC ha next
theorem sdi {ty e : TypeId} {x y : Operand} (c n j : Nat) (hu : P.underlying ty = some (.array n e)) (hj : j < n) (hs : ∀ w, (sizeOf e).run P w = .ok 1 w) (next : wpDet P ops C D rest (a.put o.dst (.pointer (some ⟨c, j, none⟩))))
  (hw : Region.wanted o (yielded ops a.tmps) = true := by rfl) (ho : o.op = .indexAddr ty x y := by rfl) (hx : a.eval x = .pointer (some ⟨c, 0, none⟩) := by rfl) (hy : a.eval y = .int .i64 (j : Int) := by rfl) : wpDet P ops C D (o :: rest) a :=
 det_index ty e x y c n j hw ho hx hy hu hj hs next
end
theorem swf {P : Program} {ops : Array Oper} {Q : Exit → Act → World → Prop} {id : Nat} {a : Act} {w : World} (d m t : Nat) (h : wpDet P ops (Ext w) (fun a' => wpAnyB P .any ops Q t m (listN d 0 (Array.replicate ops.size false)) a' w.drew) (ops.toList.take d) a)
  (hdm : ops.size = d + m := by rfl) (hm : P.follows .mixedOrders = true := by kernel_rfl) (hs : Region.noSelect ops = true := by kernel_rfl) (hQ : ∀ d v c a w, Q (.panic c) (Act.put a d v) w → Q (.panic c) a w := by exact fun d v c a w h => by cases d <;> exact h)
  (hB : detB .any ops t d 0 (Array.replicate ops.size false) = true := by kernel_rfl) : (Code.region id ops true).wp P Q a w :=
 wp_region_from d m t hdm hm hs hQ hB h
end
