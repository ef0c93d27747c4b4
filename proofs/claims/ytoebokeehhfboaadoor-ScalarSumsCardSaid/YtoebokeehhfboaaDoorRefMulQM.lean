/- The document's own product of bytes: the arithmetic. No program. Each theorem names its own conditions. -/
import Derived.Test.YtoebokeehhfboaaDoorRefQM
namespace Go.Proofs.YtoebokeehhfboaaDoor
open Go.RowKit
set_option linter.unusedVariables false
set_option linter.unusedSimpArgs false

/-- The digits of bytes. -/
def byl (l : List UInt8) : List Int := l.map fun b => (b.toNat : Int)
theorem byl_getD (l : List UInt8) (i : Nat) : (byl l).getD i 0 = ((l.getD i 0).toNat : Int) := by
  unfold byl
  simp only [List.getD, List.getElem?_map]
  cases l[i]? <;> simp
theorem byl_range (l : List UInt8) (i : Nat) : 0 ≤ (byl l).getD i 0 ∧ (byl l).getD i 0 ≤ 255 := by
  rw [byl_getD]
  have := UInt8.toNat_lt (l.getD i 0)
  omega
def tAll (x y : List Int) : Nat → List Int
  | 0 => List.replicate 64 0
  | i + 1 => mRow (tAll x y i) x y i 32
theorem tAll_length (x y : List Int) : ∀ i, (tAll x y i).length = 64
  | 0 => by simp [tAll]
  | i + 1 => by rw [tAll, mRow_length, tAll_length x y i]
theorem tRow_range {p x y : List Int} {i : Nat} {C : Int} (hi : i < 32) (hp : p.length = 64) (hC : ∀ k, 0 ≤ p.getD k 0 ∧ p.getD k 0 ≤ C) (hx : ∀ j, 0 ≤ x.getD j 0 ∧ x.getD j 0 ≤ 255) (hy : ∀ j, 0 ≤ y.getD j 0 ∧ y.getD j 0 ≤ 255) :
    ∀ j, j ≤ 32 → ∀ k, 0 ≤ (mRow p x y i j).getD k 0 ∧ (mRow p x y i j).getD k 0 ≤ C + 65025
  | 0, _, k => by have := hC k; simp only [mRow]; omega
  | j + 1, hj, k => by
    have ih := tRow_range hi hp hC hx hy j (by omega) k
    have hm := mul_range (hx i).1 (hx i).2 (hy j).1 (hy j).2
    simp only [mRow]
    by_cases e : i + j = k
    · subst e
      rw [getD_set_same (by rw [mRow_length]; omega), mRow_far p x y i j _ (by omega)]
      have := hC (i + j)
      omega
    · rw [getD_set_far e]
      exact ih
theorem tAll_range {x y : List Int} (hx : ∀ j, 0 ≤ x.getD j 0 ∧ x.getD j 0 ≤ 255) (hy : ∀ j, 0 ≤ y.getD j 0 ∧ y.getD j 0 ≤ 255) : ∀ i, i ≤ 32 → ∀ k, 0 ≤ (tAll x y i).getD k 0 ∧ (tAll x y i).getD k 0 ≤ (i : Int) * 65025
  | 0, _, k => by
    simp only [tAll, List.getD, List.getElem?_replicate]
    split <;> simp
  | i + 1, hi, k => by
    have := tRow_range (i := i) (C := (i : Int) * 65025) (by omega) (tAll_length x y i) (tAll_range hx hy i (by omega)) hx hy 32 (by omega) k
    simp only [tAll]
    omega
theorem tRow_val (p x y : List Int) (i : Nat) (hi : i < 32) (hp : p.length = 64) (hy : y.length = 32) : ∀ j, j ≤ 32 → gV 256 (mRow p x y i j) = gV 256 p + x.getD i 0 * 256 ^ i * gV 256 (y.take j)
  | 0, _ => by simp [mRow, gV]
  | j + 1, hj => by
    simp only [mRow]
    rw [gV_set _ _ _ _ (by rw [mRow_length]; omega), tRow_val p x y i hi hp hy j (by omega), gV_take_succ _ y j (by omega), Int.pow_add]
    generalize (mRow p x y i j).getD (i + j) 0 = a
    generalize (256 : Int) ^ i = X
    generalize (256 : Int) ^ j = Y
    generalize gV 256 (y.take j) = T
    generalize y.getD j 0 = t
    generalize x.getD i 0 = u
    grind
theorem tAll_val (x y : List Int) (hx : x.length = 32) (hy : y.length = 32) : ∀ i, i ≤ 32 → gV 256 (tAll x y i) = gV 256 (x.take i) * gV 256 y
  | 0, _ => by simp [tAll, gV_zeros, gV]
  | i + 1, hi => by
    simp only [tAll]
    have e : y.take 32 = y := List.take_of_length_le (by omega)
    rw [tRow_val _ _ _ _ (by omega) (tAll_length x y i) hy 32 (by omega), tAll_val x y hx hy i (by omega), gV_take_succ _ x i (by omega), e]
    generalize (256 : Int) ^ i = X
    generalize gV 256 y = T
    generalize gV 256 (x.take i) = S
    generalize x.getD i 0 = u
    grind
/-- What is carried at the place i. -/
def cM (t : List Int) (i : Nat) : Int := gV 256 (t.take i) / 256 ^ i
theorem cM_zero (t : List Int) : cM t 0 = 0 := by simp [cM, gV]
theorem cM_step (t : List Int) (i : Nat) (hi : i < t.length) : (cM t i + t.getD i 0) % 256 = gV 256 t / 256 ^ i % 256 ∧ (cM t i + t.getD i 0) / 256 = cM t (i + 1) := by
  have hP : (0 : Int) < 256 ^ i := Int.pow_pos (by omega)
  have e1 : gV 256 t = gV 256 (t.take i) + 256 ^ i * (t.getD i 0 + 256 * gV 256 (t.drop (i + 1))) := by
    have h := gV_cut 256 t i (by omega)
    rw [List.drop_eq_getElem_cons hi, gV] at h
    rw [getD_eq hi]
    exact h
  unfold cM
  refine ⟨?_, ?_⟩
  · rw [e1, Int.add_mul_ediv_left _ _ (by omega)]
    generalize gV 256 (t.take i) / 256 ^ i = c
    omega
  · rw [gV_take_succ _ t i hi, Int.pow_succ, ← Int.ediv_ediv_of_nonneg (by omega), Int.mul_comm (t.getD i 0), Int.add_mul_ediv_left _ _ (by omega)]
theorem cM_range {t : List Int} {M : Int} (hM : ∀ k, 0 ≤ t.getD k 0 ∧ t.getD k 0 ≤ M) : ∀ i, i ≤ t.length → 0 ≤ cM t i ∧ cM t i ≤ M
  | 0, _ => by rw [cM_zero]; have := hM 0; omega
  | i + 1, hi => by
    have ih := cM_range hM i (by omega)
    have h := (cM_step t i (by omega)).2
    have := hM i
    omega
theorem prod_val (l m : List UInt8) (hl : l.length = 32) (hm : m.length = 32) : gV 256 (tAll (byl l) (byl m) 32) = ((leN l * leN m : Nat) : Int) := by
  have h1 : (byl l).length = 32 := by simp [byl, hl]
  have h2 : (byl m).length = 32 := by simp [byl, hm]
  have e : (byl l).take 32 = byl l := List.take_of_length_le (by omega)
  rw [tAll_val _ _ h1 h2 32 (by omega), e, Int.natCast_mul]
  unfold byl
  rw [gV_bytes, gV_bytes]
theorem prod_byte (x k : Nat) : ((x : Int) / 256 ^ k % 256) = ((x / 256 ^ k % 256 : Nat) : Int) := by
  have e : ((256 : Int) ^ k) = ((256 ^ k : Nat) : Int) := by simp
  rw [e, ← Int.natCast_ediv]
  omega

end Go.Proofs.YtoebokeehhfboaaDoor
