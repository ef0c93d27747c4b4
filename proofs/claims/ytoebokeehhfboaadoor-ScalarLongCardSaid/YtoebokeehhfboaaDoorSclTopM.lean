/- Sums and products of limbs: the arithmetic. No program. Each theorem names its own conditions. -/
import Derived.Test.YtoebokeehhfboaaDoorSclNumM
namespace Go.Proofs.YtoebokeehhfboaaDoor
open Go.RowKit
set_option linter.unusedVariables false
set_option linter.unusedSimpArgs false

/-! ### Sums -/
def aLim (x y : List Int) : Nat → List Int
  | 0 => x
  | k + 1 => (aLim x y k).set k ((aLim x y k).getD k 0 + y.getD k 0)
theorem aLim_length (x y : List Int) : ∀ k, (aLim x y k).length = x.length
  | 0 => rfl
  | k + 1 => by simp [aLim, aLim_length x y k]
theorem aLim_far (x y : List Int) : ∀ k j, k ≤ j → (aLim x y k).getD j 0 = x.getD j 0
  | 0, _, _ => rfl
  | k + 1, j, h => by
    simp only [aLim]
    rw [getD_set_far (by omega)]
    exact aLim_far x y k j (by omega)
theorem aLim_in (x y : List Int) : ∀ k j, k ≤ x.length → j < k → (aLim x y k).getD j 0 = x.getD j 0 + y.getD j 0
  | 0, j, _, h => by omega
  | k + 1, j, hn, h => by
    simp only [aLim]
    by_cases e : j = k
    · subst e
      rw [getD_set_same (by rw [aLim_length]; omega), aLim_far x y j j (by omega)]
    · rw [getD_set_far (by omega)]
      exact aLim_in x y k j (by omega) (by omega)
theorem aLim_val (B : Int) (x y : List Int) : ∀ k, k ≤ x.length → k ≤ y.length → gV B (aLim x y k) = gV B x + gV B (y.take k)
  | 0, _, _ => by simp [aLim, gV]
  | k + 1, hx, hy => by
    simp only [aLim]
    rw [gV_set _ _ _ _ (by rw [aLim_length]; omega), aLim_val B x y k (by omega) (by omega), gV_take_succ _ y k (by omega)]
    generalize (aLim x y k).getD k 0 = a
    generalize B ^ k = Y
    generalize gV B (y.take k) = T
    generalize y.getD k 0 = t
    grind

/-! ### Products -/
def mRow (p x y : List Int) (i : Nat) : Nat → List Int
  | 0 => p
  | j + 1 => (mRow p x y i j).set (i + j) ((mRow p x y i j).getD (i + j) 0 + x.getD i 0 * y.getD j 0)
def mAll (x y : List Int) : Nat → List Int
  | 0 => List.replicate 19 0
  | i + 1 => mRow (mAll x y i) x y i 10
theorem mRow_length (p x y : List Int) (i : Nat) : ∀ j, (mRow p x y i j).length = p.length
  | 0 => rfl
  | j + 1 => by simp [mRow, mRow_length p x y i j]
theorem mAll_length (x y : List Int) : ∀ i, (mAll x y i).length = 19
  | 0 => by simp [mAll]
  | i + 1 => by rw [mAll, mRow_length, mAll_length x y i]
theorem mRow_far (p x y : List Int) (i : Nat) : ∀ j k, i + j ≤ k → (mRow p x y i j).getD k 0 = p.getD k 0
  | 0, _, _ => rfl
  | j + 1, k, h => by
    simp only [mRow]
    rw [getD_set_far (by omega)]
    exact mRow_far p x y i j k (by omega)
theorem mul_range {a b M : Int} (h1 : 0 ≤ a) (h2 : a ≤ M) (h3 : 0 ≤ b) (h4 : b ≤ M) : 0 ≤ a * b ∧ a * b ≤ M * M :=
  ⟨Int.mul_nonneg h1 h3, Int.mul_le_mul h2 h4 h3 (by omega)⟩
theorem mRow_range {p x y : List Int} {i : Nat} {C : Int} (hi : i < 10) (hp : p.length = 19) (hC : ∀ k, 0 ≤ p.getD k 0 ∧ p.getD k 0 ≤ C) (hx : 0 ≤ x.getD i 0 ∧ x.getD i 0 ≤ 268435456) (hy : ∀ j, 0 ≤ y.getD j 0 ∧ y.getD j 0 ≤ 268435456) :
    ∀ j, j ≤ 10 → ∀ k, 0 ≤ (mRow p x y i j).getD k 0 ∧ (mRow p x y i j).getD k 0 ≤ C + 72057594037927936
  | 0, _, k => by have := hC k; simp only [mRow]; omega
  | j + 1, hj, k => by
    have ih := mRow_range hi hp hC hx hy j (by omega) k
    have hm := mul_range hx.1 hx.2 (hy j).1 (hy j).2
    simp only [mRow]
    by_cases e : i + j = k
    · subst e
      rw [getD_set_same (by rw [mRow_length]; omega), mRow_far p x y i j _ (by omega)]
      have := hC (i + j)
      omega
    · rw [getD_set_far e]
      exact ih
theorem mAll_range {x y : List Int} (hx : ∀ j, 0 ≤ x.getD j 0 ∧ x.getD j 0 ≤ 268435456) (hy : ∀ j, 0 ≤ y.getD j 0 ∧ y.getD j 0 ≤ 268435456) : ∀ i, i ≤ 10 → ∀ k, 0 ≤ (mAll x y i).getD k 0 ∧ (mAll x y i).getD k 0 ≤ (i : Int) * 72057594037927936
  | 0, _, k => by
    simp only [mAll, List.getD, List.getElem?_replicate]
    split <;> simp
  | i + 1, hi, k => by
    have := mRow_range (C := (i : Int) * 72057594037927936) (by omega) (mAll_length x y i) (mAll_range hx hy i (by omega)) (hx i) hy 10 (by omega) k
    simp only [mAll]
    omega
theorem mRow_val (p x y : List Int) (i : Nat) (hi : i < 10) (hp : p.length = 19) (hy : y.length = 19) : ∀ j, j ≤ 10 → gV 268435456 (mRow p x y i j) = gV 268435456 p + x.getD i 0 * 268435456 ^ i * gV 268435456 (y.take j)
  | 0, _ => by simp [mRow, gV]
  | j + 1, hj => by
    simp only [mRow]
    rw [gV_set _ _ _ _ (by rw [mRow_length]; omega), mRow_val p x y i hi hp hy j (by omega), gV_take_succ _ y j (by omega), Int.pow_add]
    generalize (mRow p x y i j).getD (i + j) 0 = a
    generalize (268435456 : Int) ^ i = X
    generalize (268435456 : Int) ^ j = Y
    generalize gV 268435456 (y.take j) = T
    generalize y.getD j 0 = t
    generalize x.getD i 0 = u
    grind
theorem mAll_val (x y : List Int) (hx : x.length = 19) (hy : y.length = 19) : ∀ i, i ≤ 10 → gV 268435456 (mAll x y i) = gV 268435456 (x.take i) * gV 268435456 (y.take 10)
  | 0, _ => by simp [mAll, gV_zeros, gV]
  | i + 1, hi => by
    simp only [mAll]
    rw [mRow_val _ _ _ _ (by omega) (mAll_length x y i) hy 10 (by omega), mAll_val x y hx hy i (by omega), gV_take_succ _ x i (by omega)]
    generalize (268435456 : Int) ^ i = X
    generalize gV 268435456 (y.take 10) = T
    generalize gV 268435456 (x.take i) = S
    generalize x.getD i 0 = u
    grind

theorem Can.range {y : List Int} {v : Int} (h : Can y v) : ∀ j, 0 ≤ y.getD j 0 ∧ y.getD j 0 < 268435456 := by
  intro j
  rcases (by omega : j < 18 ∨ j = 18 ∨ 18 < j) with g | g | g
  · exact h.low j g
  · rw [g]; have := h.top; omega
  · rw [getD_out (by have := h.len; omega)]; omega
/-- Ten limbs are enough for 32 bytes. -/
theorem Can.ten {y : List Int} {v : Int} (h : Can y v) (hv : v < 268435456 ^ 10) (v0 : 0 ≤ v) : gV 268435456 (y.take 10) = v := by
  have hc := gV_cut 268435456 y 10 (by have := h.len; omega)
  have hd := gV_div (B := 268435456) (by omega) (zs := y) (d := 10) (by have := h.len; omega) (fun j hj => h.low j (by omega))
  rw [h.val, Int.ediv_eq_zero_of_lt v0 hv] at hd
  rw [← hd, h.val] at hc
  omega
theorem leN_ten (l : List UInt8) (h : l.length = 32) : (leN l : Int) < 268435456 ^ 10 := by
  have h1 := leN_lt l
  rw [h] at h1
  have h2 : ((256 ^ 32 : Nat) : Int) < 268435456 ^ 10 := by decide +kernel
  exact Int.lt_trans (Int.ofNat_lt.2 h1) h2
theorem leN_prod (l m : List UInt8) (hl : l.length = 32) (hm : m.length = 32) : (leN l : Int) * leN m < hQ := by
  have h1 := leN_lt l
  have h2 := leN_lt m
  rw [hl] at h1
  rw [hm] at h2
  have h3 : leN l * leN m < 256 ^ 32 * 256 ^ 32 := Nat.mul_lt_mul'' h1 h2
  have h4 : ((256 ^ 32 * 256 ^ 32 : Nat) : Int) = hQ := by decide +kernel
  rw [← h4, ← Int.natCast_mul]
  exact Int.ofNat_lt.2 h3
theorem leN_summ (l m : List UInt8) (hl : l.length = 32) (hm : m.length = 32) : (leN l : Int) + leN m < hQ := by
  have h1 := leN_ten l hl
  have h2 := leN_ten m hm
  have h4 : (268435456 : Int) ^ 10 + 268435456 ^ 10 < hQ := by decide +kernel
  omega

theorem nq_val (x : Int) : ((leN (nq x) : Nat) : Int) = x % qQ := by
  have h0 : 0 ≤ x % qQ := Int.emod_nonneg x (by decide +kernel)
  have h1 : x % qQ < qQ := Int.emod_lt_of_pos x (by decide +kernel)
  have hp : qQ < ((256 ^ 32 : Nat) : Int) := by decide +kernel
  unfold nq
  rw [leN_bytesN, Nat.mod_eq_of_lt, Int.toNat_of_nonneg h0]
  have : ((x % qQ).toNat : Int) < ((256 ^ 32 : Nat) : Int) := by
    rw [Int.toNat_of_nonneg h0]
    exact Int.lt_trans h1 hp
  exact Int.ofNat_lt.1 this
theorem nq_congr {x y : Int} (h : x % qQ = y % qQ) : nq x = nq y := by unfold nq; rw [h]
theorem nq_add (x y : Int) : nq ((leN (nq x) : Nat) + (leN (nq y) : Nat)) = nq (x + y) := nq_congr (by rw [nq_val, nq_val, ← Int.add_emod])
theorem nq_mul (x y : Int) : nq ((leN (nq x) : Nat) * (leN (nq y) : Nat)) = nq (x * y) := nq_congr (by rw [nq_val, nq_val, ← Int.mul_emod])
/-- Just what is below q is its own rest. -/
theorem nq_self (l : List UInt8) (hl : l.length = 32) : nq (leN l : Nat) = l ↔ (leN l : Int) < qQ := by
  have hq : 0 < qQ := qQ_pos
  constructor
  · intro h
    have := nq_val (leN l : Nat)
    rw [h] at this
    rw [this]
    exact Int.emod_lt_of_pos _ hq
  · intro h
    unfold nq
    rw [Int.emod_eq_of_lt (by omega) h, Int.toNat_natCast, ← hl]
    exact bytesN_leN l
def lessB (l : List UInt8) : Bool := decide ((leN l : Int) < qQ)
theorem lessB_eq (l : List UInt8) (hl : l.length = 32) : decide (nq (leN l : Nat) = l) = lessB l := by
  unfold lessB
  rw [Bool.eq_iff_iff, decide_eq_true_iff, decide_eq_true_iff]
  exact nq_self l hl
theorem lessB_nq (x : Int) : lessB (nq x) = true := by
  unfold lessB
  rw [decide_eq_true_iff, nq_val]
  exact Int.emod_lt_of_pos _ qQ_pos

end Go.Proofs.YtoebokeehhfboaaDoor
