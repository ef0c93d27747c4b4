/- The code's arithmetic modulo the group order: carry, limbs of bytes, the rest. The arithmetic alone, no program. Each theorem names its own conditions. -/
import Derived.Test.YtoebokeehhfboaaDoorDigKit
namespace Go.Proofs.YtoebokeehhfboaaDoor
open Go.RowKit
set_option linter.unusedVariables false
set_option linter.unusedSimpArgs false

/-- q, and q - 2^252. -/
def qQ : Int := 7237005577332262213973186563042994240857116359379907606001950938285454250989
def tT : Int := 27742317777372353535851937790883648493
theorem qQ_tT : qQ = 7237005577332262213973186563042994240829374041602535252466099000494570602496 + tT := rfl
theorem qQ_pos : 0 < qQ := by unfold qQ; omega

/-! ### Carry -/
def cStep (x : List Int) (i : Nat) : List Int := (x.set (i + 1) (x.getD (i + 1) 0 + x.getD i 0 / 268435456)).set i (x.getD i 0 % 268435456)
def cRun (x : List Int) (f : Nat) : Nat → List Int
  | 0 => x
  | n + 1 => cStep (cRun x f n) (f + n)

structure CR (x y : List Int) (f n : Nat) (B : Int) : Prop where
  len : y.length = x.length
  val : gV 268435456 y = gV 268435456 x
  low : ∀ j, j < f → y.getD j 0 = x.getD j 0
  mid : ∀ j, f ≤ j → j < f + n → 0 ≤ y.getD j 0 ∧ y.getD j 0 < 268435456
  here : -(B + B / 32768 + 2) ≤ y.getD (f + n) 0 ∧ y.getD (f + n) 0 ≤ B + B / 32768 + 2
  high : ∀ j, f + n < j → y.getD j 0 = x.getD j 0

theorem cStep_spec {x y : List Int} {f n : Nat} {B : Int} (h : CR x y f n B) (hn : f + n + 1 < x.length) (h0 : 0 ≤ B) (hB : -B ≤ x.getD (f + n + 1) 0 ∧ x.getD (f + n + 1) 0 ≤ B) : CR x (cStep y (f + n)) f (n + 1) B := by
  obtain ⟨h1, h2, h3, h4, h5, h6⟩ := h
  have hi := h6 (f + n + 1) (by omega)
  unfold cStep
  refine ⟨by simp [h1], ?_, fun j hj => ?_, fun j hj hj2 => ?_, ?_, fun j hj => ?_⟩
  · rw [gV_set _ _ _ _ (by simp; omega), gV_set _ _ _ _ (by omega), getD_set_far (by omega), h2, Int.pow_succ]
    have e := Int.mul_ediv_add_emod (y.getD (f + n) 0) 268435456
    generalize (268435456 : Int) ^ (f + n) = X
    generalize y.getD (f + n) 0 / 268435456 = a at *
    generalize y.getD (f + n) 0 % 268435456 = b at *
    rw [← e]
    grind
  · rw [getD_set_far (by omega), getD_set_far (by omega)]
    exact h3 j hj
  · by_cases e : j = f + n
    · subst e
      rw [getD_set_same (by simp; omega)]
      omega
    · rw [getD_set_far (by omega), getD_set_far (by omega)]
      exact h4 j hj (by omega)
  · rw [show f + (n + 1) = f + n + 1 from rfl, getD_set_far (by omega), getD_set_same (by omega), hi]
    omega
  · rw [getD_set_far (by omega), getD_set_far (by omega)]
    exact h6 j (by omega)

theorem cRun_spec (x : List Int) (f : Nat) (B : Int) (h0 : 0 ≤ B) : ∀ n, f + n < x.length → (∀ j, f ≤ j → j ≤ f + n → -B ≤ x.getD j 0 ∧ x.getD j 0 ≤ B) → CR x (cRun x f n) f n B
  | 0, hn, hB => ⟨rfl, rfl, fun j _ => rfl, fun j _ _ => by omega, by have := hB f (by omega) (by omega); simp only [cRun, Nat.add_zero]; omega, fun j _ => rfl⟩
  | n + 1, hn, hB => cStep_spec (cRun_spec x f B h0 n (by omega) (fun j h1 h2 => hB j h1 (by omega))) hn h0 (hB (f + n + 1) (by omega) (by omega))

/-! ### The limbs of bytes -/
def lStep (x : List Int) (i : Nat) (b : Nat) : List Int := x.set (8 * i / 28) (x.getD (8 * i / 28) 0 + (b : Int) * 2 ^ (8 * i % 28))
def lRun (l : List UInt8) : Nat → List Int
  | 0 => List.replicate 19 0
  | k + 1 => lStep (lRun l k) k (l.getD k 0).toNat
theorem lRun_length (l : List UInt8) : ∀ k, (lRun l k).length = 19
  | 0 => by simp [lRun]
  | k + 1 => by simp [lRun, lStep, lRun_length l k]
theorem pow28 (s : Nat) (h : s < 28) : (2 : Int) ^ s ≤ 134217728 ∧ 0 < (2 : Int) ^ s := by
  have h1 : (2 : Int) ^ s ≤ 2 ^ 27 := by
    have : (2 : Nat) ^ s ≤ 2 ^ 27 := Nat.pow_le_pow_right (by omega) (by omega)
    have e : ((2 : Int) ^ s) = ((2 ^ s : Nat) : Int) := by simp
    have e2 : ((2 : Int) ^ 27) = ((2 ^ 27 : Nat) : Int) := by simp
    rw [e, e2]
    omega
  exact ⟨by simpa using h1, Int.pow_pos (by omega)⟩
theorem byte_pow (b s : Nat) (hb : b < 256) (h : s < 28) : 0 ≤ (b : Int) * 2 ^ s ∧ (b : Int) * 2 ^ s ≤ 34225520640 := by
  obtain ⟨h1, h2⟩ := pow28 s h
  refine ⟨Int.mul_nonneg (by omega) (by omega), ?_⟩
  exact Int.le_trans (Int.mul_le_mul (show (b : Int) ≤ 255 by omega) h1 (by omega) (by omega)) (by omega)
theorem lRun_range (l : List UInt8) : ∀ k, k ≤ 64 → ∀ j, 0 ≤ (lRun l k).getD j 0 ∧ (lRun l k).getD j 0 ≤ (k : Int) * 34225520640
  | 0, _, j => by
    simp only [lRun, List.getD, List.getElem?_replicate]
    split <;> simp
  | k + 1, hk, j => by
    have ih := lRun_range l k (by omega)
    have hb := byte_pow (l.getD k 0).toNat (8 * k % 28) (UInt8.toNat_lt _) (by omega)
    simp only [lRun, lStep]
    by_cases e : 8 * k / 28 = j
    · subst e
      rw [getD_set_same (by rw [lRun_length]; omega)]
      have := ih (8 * k / 28)
      omega
    · rw [getD_set_far e]
      have := ih j
      omega
theorem leN_take_succ : ∀ (l : List UInt8) (k : Nat), k < l.length → leN (l.take (k + 1)) = leN (l.take k) + (l.getD k 0).toNat * 256 ^ k
  | [], k, h => by simp at h
  | b :: r, 0, h => by simp [leN]
  | b :: r, k + 1, h => by
    have := leN_take_succ r k (by simpa using h)
    simp only [List.take_succ_cons, leN, List.getD_cons_succ, Nat.pow_succ] at this ⊢
    rw [this]
    grind
theorem pow_split (k : Nat) : (268435456 : Int) ^ (8 * k / 28) * 2 ^ (8 * k % 28) = 256 ^ k := by
  have e1 : (268435456 : Int) = 2 ^ 28 := by omega
  have e2 : (256 : Int) = 2 ^ 8 := by omega
  rw [e1, e2, ← Int.pow_mul, ← Int.pow_mul, ← Int.pow_add]
  congr 1
  omega
theorem lRun_val (l : List UInt8) : ∀ k, k ≤ l.length → k ≤ 64 → gV 268435456 (lRun l k) = ((leN (l.take k) : Nat) : Int)
  | 0, _, _ => by
    rw [List.take_zero]
    exact gV_zeros _ 19
  | k + 1, hk, h64 => by
    simp only [lRun, lStep]
    rw [gV_set _ _ _ _ (by rw [lRun_length]; omega), lRun_val l k (by omega) (by omega), leN_take_succ l k (by omega)]
    have e := pow_split k
    simp only [Int.natCast_add, Int.natCast_mul, Int.natCast_pow]
    rw [show ((256 : Nat) : Int) = 256 from rfl, ← e]
    generalize (268435456 : Int) ^ (8 * k / 28) = X
    generalize (2 : Int) ^ (8 * k % 28) = Y
    grind
/-- 2^512. -/
def hQ : Int := 268435456 ^ 18 * 256
theorem hQ_nat : hQ = ((256 ^ 64 : Nat) : Int) := by decide +kernel
theorem leN_hQ (l : List UInt8) (h : l.length ≤ 64) : (leN l : Int) < hQ := by
  have h1 := leN_lt l
  have h2 : 256 ^ l.length ≤ 256 ^ 64 := Nat.pow_le_pow_right (by omega) h
  rw [hQ_nat]
  exact Int.ofNat_lt.2 (Nat.lt_of_lt_of_le h1 h2)

/-- Limbs that are carried. -/
structure Can (y : List Int) (v : Int) : Prop where
  len : y.length = 19
  val : gV 268435456 y = v
  low : ∀ j, j < 18 → 0 ≤ y.getD j 0 ∧ y.getD j 0 < 268435456
  top : 0 ≤ y.getD 18 0 ∧ y.getD 18 0 < 256
theorem carry_can {x : List Int} {v B : Int} (hl : x.length = 19) (h0 : 0 ≤ B) (hB : ∀ j, j < 19 → -B ≤ x.getD j 0 ∧ x.getD j 0 ≤ B) (hv : gV 268435456 x = v) (v0 : 0 ≤ v) (v1 : v < hQ) : Can (cRun x 0 18) v := by
  obtain ⟨h1, h2, h3, h4, h5, h6⟩ := cRun_spec x 0 B h0 18 (by omega) (fun j _ hj => hB j (by omega))
  have hlo : ∀ j, j < 18 → 0 ≤ (cRun x 0 18).getD j 0 ∧ (cRun x 0 18).getD j 0 < 268435456 := fun j hj => h4 j (by omega) (by omega)
  refine ⟨by omega, by rw [h2, hv], hlo, ?_⟩
  have hd := gV_div (B := 268435456) (by omega) (zs := cRun x 0 18) (d := 18) (by omega) hlo
  have e : gV 268435456 ((cRun x 0 18).drop 18) = (cRun x 0 18).getD 18 0 := by
    have hlen : ((cRun x 0 18).drop 18).length = 1 := by simp; omega
    match hq : (cRun x 0 18).drop 18, hlen with
    | [z], _ =>
      have : ((cRun x 0 18).drop 18).getD 0 0 = z := by rw [hq]; rfl
      rw [getD_drop] at this
      simp only [gV, this]
      omega
  rw [e, h2, hv] at hd
  rw [← hd]
  have e4 : (0 : Int) < 268435456 ^ 18 := Int.pow_pos (by omega)
  unfold hQ at v1
  generalize (268435456 : Int) ^ 18 = X at *
  exact ⟨Int.ediv_nonneg v0 (by omega), Int.ediv_lt_of_lt_mul e4 (by rw [Int.mul_comm]; exact v1)⟩

end Go.Proofs.YtoebokeehhfboaaDoor
