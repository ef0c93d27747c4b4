/- Numbers modulo 2^130 - 5 by seventeen digits to the base 256, as the document's own has them: carries, a product, the whole number. No program. Each theorem names its own conditions. -/
import Derived.Test.YtjnnhkodkbhbbaaDigKit
namespace Go.Proofs.Ytjnnhkodkbhbbaa
open Go.RowKit
set_option linter.unusedVariables false
set_option linter.unusedSimpArgs false

/-- 2^130 - 5. -/
def pQ : Nat := 1361129467683753853853498429727072845819
def two130 : Int := 1361129467683753853853498429727072845824
theorem two130_eq : two130 = (pQ : Int) + 5 := by decide +kernel

/-- One pass of the carry: the digits below i are small, u goes on. -/
def ply_qRun (h : List Int) : Nat → List Int × Int
  | 0 => (h, 0)
  | i + 1 => ((ply_qRun h i).1.set i (((ply_qRun h i).2 + (ply_qRun h i).1.getD i 0) % 256), ((ply_qRun h i).2 + (ply_qRun h i).1.getD i 0) / 256)
theorem ply_qRun_length (h : List Int) : ∀ i, (ply_qRun h i).1.length = h.length
  | 0 => rfl
  | i + 1 => by simp [ply_qRun, ply_qRun_length h i]
theorem qRun_far (h : List Int) : ∀ i j, i ≤ j → (ply_qRun h i).1.getD j 0 = h.getD j 0
  | 0, _, _ => rfl
  | i + 1, j, hj => by
    rw [ply_qRun, getD_set_far (by omega), qRun_far h i j (by omega)]
theorem qRun_small (h : List Int) (hl : h.length = 17) : ∀ i, i ≤ 16 → ∀ j, j < i → 0 ≤ (ply_qRun h i).1.getD j 0 ∧ (ply_qRun h i).1.getD j 0 < 256
  | 0, _, j, hj => by omega
  | i + 1, hi, j, hj => by
    rw [ply_qRun]
    by_cases e : j = i
    · subst e
      rw [getD_set_same (by rw [ply_qRun_length]; omega)]
      omega
    · rw [getD_set_far (by omega)]
      exact qRun_small h hl i (by omega) j (by omega)
theorem qRun_val (h : List Int) (hl : h.length = 17) : ∀ i, i ≤ 16 → gV 256 (ply_qRun h i).1 + (ply_qRun h i).2 * 256 ^ i = gV 256 h
  | 0, _ => by simp [ply_qRun]
  | i + 1, hi => by
    have ih := qRun_val h hl i (by omega)
    rw [ply_qRun, gV_set _ _ _ _ (by rw [ply_qRun_length]; omega), ← ih, Int.pow_succ]
    generalize (ply_qRun h i).2 = u
    generalize (ply_qRun h i).1.getD i 0 = z
    generalize gV 256 (ply_qRun h i).1 = V
    generalize hB : (256 : Int) ^ i = B
    have e : (u + z) = 256 * ((u + z) / 256) + (u + z) % 256 := (Int.mul_ediv_add_emod _ _).symm
    generalize (u + z) / 256 = q at *
    generalize (u + z) % 256 = r at *
    have : u = 256 * q + r - z := by omega
    subst this
    grind
theorem qRun_nonneg (h : List Int) (hn : ∀ i, 0 ≤ h.getD i 0) : ∀ i, 0 ≤ (ply_qRun h i).2
  | 0 => by simp [ply_qRun]
  | i + 1 => by
    have ih := qRun_nonneg h hn i
    have := hn i
    rw [ply_qRun, qRun_far h i i (Nat.le_refl _)]
    show 0 ≤ ((ply_qRun h i).2 + h.getD i 0) / 256
    omega
theorem qRun_top (h : List Int) {M : Int} (hn : ∀ i, 0 ≤ h.getD i 0 ∧ h.getD i 0 ≤ M) : ∀ i, (ply_qRun h i).2 ≤ M
  | 0 => by
    have := hn 0
    simp only [ply_qRun]
    omega
  | i + 1 => by
    have ih := qRun_top h hn i
    have := hn i
    rw [ply_qRun, qRun_far h i i (Nat.le_refl _)]
    show ((ply_qRun h i).2 + h.getD i 0) / 256 ≤ M
    omega

/-- A whole pass: what is above 2^130 comes back five times. -/
def qPass (h : List Int) : List Int := ((ply_qRun h 16).1.set 16 (((ply_qRun h 16).2 + h.getD 16 0) % 4)).set 0 ((ply_qRun h 16).1.getD 0 0 + 5 * (((ply_qRun h 16).2 + h.getD 16 0) / 4))
theorem qPass_length (h : List Int) : (qPass h).length = h.length := by simp [qPass, ply_qRun_length]
theorem pow_16 : (256 : Int) ^ 16 = 340282366920938463463374607431768211456 := by decide +kernel
theorem digits16 {zs : List Int} (hl : zs.length = 17) (h : ∀ j, j < 16 → 0 ≤ zs.getD j 0 ∧ zs.getD j 0 < 256) : 0 ≤ gV 256 (zs.take 16) ∧ gV 256 (zs.take 16) < 340282366920938463463374607431768211456 := by
  have := gV_range (B := 256) (by omega) (zs := zs.take 16) (fun i hi => by
    have hi2 : i < 16 := by simp at hi; omega
    rw [getD_take hi2]
    exact h i hi2)
  rw [List.length_take, hl] at this
  rw [← pow_16]
  exact this
theorem gV_17 {zs : List Int} (hl : zs.length = 17) : gV 256 zs = gV 256 (zs.take 16) + zs.getD 16 0 * 340282366920938463463374607431768211456 := by
  have h1 : zs.take 17 = zs := List.take_of_length_le (by omega)
  have h2 := gV_take_succ 256 zs 16 (by omega)
  rw [h1, pow_16] at h2
  exact h2
/-- What a pass does to a number that is not negative. -/
theorem qPass_val (h : List Int) (hl : h.length = 17) (hn : ∀ i, 0 ≤ h.getD i 0) :
    gV 256 (qPass h) = gV 256 h % two130 + 5 * (gV 256 h / two130) ∧ ((ply_qRun h 16).2 + h.getD 16 0) / 4 = gV 256 h / two130 := by
  have hv := qRun_val h hl 16 (Nat.le_refl _)
  have hs := qRun_small h hl 16 (Nat.le_refl _)
  have hf := qRun_far h 16 16 (Nat.le_refl _)
  have hlen : (ply_qRun h 16).1.length = 17 := by rw [ply_qRun_length, hl]
  have hd := digits16 hlen hs
  have h17 := gV_17 hlen
  rw [hf] at h17
  rw [h17, pow_16] at hv
  have e1 : gV 256 (qPass h) = gV 256 ((ply_qRun h 16).1.take 16) + ((ply_qRun h 16).2 + h.getD 16 0) % 4 * 340282366920938463463374607431768211456 + 5 * (((ply_qRun h 16).2 + h.getD 16 0) / 4) := by
    unfold qPass
    rw [gV_set _ _ _ _ (by simp [hlen]), gV_set _ _ _ _ (by omega), getD_set_far (by omega), pow_16, h17, hf]
    generalize gV 256 ((ply_qRun h 16).1.take 16) = D
    generalize (ply_qRun h 16).1.getD 0 0 = z
    generalize ((ply_qRun h 16).2 + h.getD 16 0) % 4 = r
    generalize ((ply_qRun h 16).2 + h.getD 16 0) / 4 = q
    rw [Int.pow_zero, Int.mul_one]
    omega
  have hu := qRun_nonneg h hn 16
  have h16 := hn 16
  rw [e1]
  generalize gV 256 ((ply_qRun h 16).1.take 16) = D at *
  generalize (ply_qRun h 16).2 = u at *
  generalize h.getD 16 0 = z at *
  generalize gV 256 h = V at *
  unfold two130
  clear e1 h17 hf hs hlen
  constructor
  · omega
  · omega
/-- What is below 2^130 stands, and its digits are small. -/
theorem qPass_small (h : List Int) (hl : h.length = 17) (hn : ∀ i, 0 ≤ h.getD i 0) (hv : gV 256 h < two130) :
    gV 256 (qPass h) = gV 256 h ∧ (∀ i, i < 16 → 0 ≤ (qPass h).getD i 0 ∧ (qPass h).getD i 0 < 256) ∧ 0 ≤ (qPass h).getD 16 0 ∧ (qPass h).getD 16 0 < 4 := by
  obtain ⟨h1, h2⟩ := qPass_val h hl hn
  have h0 : 0 ≤ gV 256 h := by
    have hv' := qRun_val h hl 16 (Nat.le_refl _)
    have hs := qRun_small h hl 16 (Nat.le_refl _)
    have hf := qRun_far h 16 16 (Nat.le_refl _)
    have hlen : (ply_qRun h 16).1.length = 17 := by rw [ply_qRun_length, hl]
    have hd := digits16 hlen hs
    have h17 := gV_17 hlen
    rw [hf] at h17
    rw [h17, pow_16] at hv'
    have hu := qRun_nonneg h hn 16
    have h16 := hn 16
    omega
  have hq : gV 256 h / two130 = 0 := Int.ediv_eq_zero_of_lt h0 hv
  have hm : gV 256 h % two130 = gV 256 h := Int.emod_eq_of_lt h0 hv
  rw [hq] at h1 h2
  rw [hm] at h1
  have hlen : (ply_qRun h 16).1.length = 17 := by rw [ply_qRun_length, hl]
  have hs := qRun_small h hl 16 (Nat.le_refl _)
  refine ⟨by rw [h1]; omega, fun i hi => ?_, ?_⟩
  · unfold qPass
    rw [h2]
    by_cases e : i = 0
    · subst e
      rw [getD_set_same (by simp [hlen])]
      have := hs 0 (by omega)
      omega
    · rw [getD_set_far (by omega), getD_set_far (by omega)]
      exact hs i hi
  · unfold qPass
    rw [getD_set_far (by omega), getD_set_same (by omega)]
    omega
theorem qPass_nonneg (h : List Int) (hl : h.length = 17) (hn : ∀ i, 0 ≤ h.getD i 0) : ∀ i, 0 ≤ (qPass h).getD i 0 := by
  intro i
  have hlen : (ply_qRun h 16).1.length = 17 := by rw [ply_qRun_length, hl]
  have hs := qRun_small h hl 16 (Nat.le_refl _)
  have hu := qRun_nonneg h hn 16
  have h16 := hn 16
  unfold qPass
  by_cases e : i = 0
  · subst e
    rw [getD_set_same (by simp [hlen])]
    have := hs 0 (by omega)
    omega
  · rw [getD_set_far (by omega)]
    by_cases e2 : i = 16
    · subst e2
      rw [getD_set_same (by omega)]
      omega
    · rw [getD_set_far (by omega)]
      rcases Nat.lt_or_ge i 16 with h | h
      · exact (hs i h).1
      · rw [getD_out (by omega)]
        omega
/-- Three passes, of digits none too great: the number modulo 2^130 - 5, below 2^130, in small digits. -/
def qThree (h : List Int) : List Int := qPass (qPass (qPass h))
def Can17 (h : List Int) : Prop := h.length = 17 ∧ (∀ i, i < 16 → 0 ≤ h.getD i 0 ∧ h.getD i 0 < 256) ∧ 0 ≤ h.getD 16 0 ∧ h.getD 16 0 < 4
theorem qThree_val (h : List Int) (hl : h.length = 17) (hn : ∀ i, 0 ≤ h.getD i 0) (hV : gV 256 h < 1496577676626844588240573268701473812127674924007424) :
    Can17 (qThree h) ∧ gV 256 (qThree h) % (pQ : Int) = gV 256 h % (pQ : Int) := by
  have n1 := qPass_nonneg h hl hn
  have l1 : (qPass h).length = 17 := by rw [qPass_length, hl]
  have n2 := qPass_nonneg _ l1 n1
  have l2 : (qPass (qPass h)).length = 17 := by rw [qPass_length, l1]
  have v1 := (qPass_val h hl hn).1
  have v2 := (qPass_val _ l1 n1).1
  have pos : ∀ k : List Int, k.length = 17 → (∀ i, 0 ≤ k.getD i 0) → 0 ≤ gV 256 k := fun k hk hn => by
    have : ∀ (zs : List Int), (∀ i, 0 ≤ zs.getD i 0) → 0 ≤ gV 256 zs := by
      intro zs
      induction zs with
      | nil => intro _; exact Int.le_refl _
      | cons z r ih =>
        intro h
        have h0 : 0 ≤ z := h 0
        have h1 := ih (fun i => by have := h (i + 1); simpa using this)
        simp only [gV]
        omega
    exact this k hn
  have p0 := pos h hl hn
  have b2 : gV 256 (qPass (qPass h)) < two130 ∧ gV 256 (qPass (qPass h)) % (pQ : Int) = gV 256 h % (pQ : Int) := by
    rw [v2, v1]
    generalize gV 256 h = V at *
    unfold two130 pQ
    clear v1 v2
    omega
  obtain ⟨s1, s2, s3⟩ := qPass_small _ l2 n2 b2.1
  refine ⟨⟨by unfold qThree; rw [qPass_length, l2], s2, s3⟩, ?_⟩
  unfold qThree
  rw [s1, b2.2]

end Go.Proofs.Ytjnnhkodkbhbbaa
