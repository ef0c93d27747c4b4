/- The code's limbs of 26 bits: sums, carries, what is settled and reduced, products. No program. Each theorem names its own conditions. -/
import Derived.Test.YtjnnhkodkbhbbaaPolEnd
namespace Go.Proofs.Ytjnnhkodkbhbbaa
open Go.RowKit
set_option linter.unusedVariables false
set_option linter.unusedSimpArgs false

/-- Five limbs of at most so much. -/
def Lim (M : Int) (l : List Int) : Prop := ∃ a b c d e, l = [a, b, c, d, e] ∧ (0 ≤ a ∧ a ≤ M) ∧ (0 ≤ b ∧ b ≤ M) ∧ (0 ≤ c ∧ c ≤ M) ∧ (0 ≤ d ∧ d ≤ M) ∧ (0 ≤ e ∧ e ≤ M)
theorem Lim.len {M : Int} {l : List Int} (h : Lim M l) : l.length = 5 := by
  obtain ⟨a, b, c, d, e, rfl, _⟩ := h
  rfl
theorem Lim.getD {M : Int} (hM : 0 ≤ M) {l : List Int} (h : Lim M l) : ∀ i, 0 ≤ l.getD i 0 ∧ l.getD i 0 ≤ M := by
  obtain ⟨a, b, c, d, e, rfl, h1, h2, h3, h4, h5⟩ := h
  intro i
  match i with
  | 0 => exact h1
  | 1 => exact h2
  | 2 => exact h3
  | 3 => exact h4
  | 4 => exact h5
  | n + 5 => simp; omega
theorem Lim.of {M : Int} {l : List Int} (hl : l.length = 5) (h : ∀ i, i < 5 → 0 ≤ l.getD i 0 ∧ l.getD i 0 ≤ M) : Lim M l := by
  match l, hl with
  | [a, b, c, d, e], _ => exact ⟨a, b, c, d, e, rfl, h 0 (by omega), h 1 (by omega), h 2 (by omega), h 3 (by omega), h 4 (by omega)⟩
theorem Lim.up {M N : Int} {l : List Int} (h : Lim M l) (hMN : M ≤ N) : Lim N l := by
  obtain ⟨a, b, c, d, e, rfl, h1, h2, h3, h4, h5⟩ := h
  exact ⟨a, b, c, d, e, rfl, by omega, by omega, by omega, by omega, by omega⟩
theorem gV5 (a b c d e : Int) : gV 67108864 [a, b, c, d, e] = a + 67108864 * b + 4503599627370496 * c + 302231454903657293676544 * d + 20282409603651670423947251286016 * e := by
  simp only [gV]
  omega

/-- A sum, limb by limb. -/
theorem sA_getD (h c : List Int) : ∀ k, k ≤ h.length → ∀ i, (sA h c k).getD i 0 = if i < k then h.getD i 0 + c.getD i 0 else h.getD i 0
  | 0, _, i => by rw [if_neg (by omega)]; rfl
  | k + 1, hk, i => by
    rw [sA]
    by_cases e : i = k
    · subst e
      rw [getD_set_same (by rw [sA_length]; omega), if_pos (by omega), sA_getD h c i (by omega) i, if_neg (by omega)]
    · rw [getD_set_far (by omega), sA_getD h c k (by omega) i]
      by_cases h1 : i < k
      · rw [if_pos h1, if_pos (by omega)]
      · rw [if_neg h1, if_neg (by omega)]
def addL (x y : List Int) : List Int := sA x y 5
theorem addL_five (a b c d e f g h i j : Int) : addL [a, b, c, d, e] [f, g, h, i, j] = [a + f, b + g, c + h, d + i, e + j] := by simp [addL, sA]
theorem addL_val {M N : Int} {x y : List Int} (hx : Lim M x) (hy : Lim N y) : Lim (M + N) (addL x y) ∧ gV 67108864 (addL x y) = gV 67108864 x + gV 67108864 y := by
  obtain ⟨a, b, c, d, e, rfl, h1, h2, h3, h4, h5⟩ := hx
  obtain ⟨f, g, h, i, j, rfl, k1, k2, k3, k4, k5⟩ := hy
  rw [addL_five]
  refine ⟨⟨_, _, _, _, _, rfl, by omega, by omega, by omega, by omega, by omega⟩, ?_⟩
  rw [gV5, gV5, gV5]
  omega

/-- Settling, limb by limb: what is carried goes on. -/
def zRun (h : List Int) : Nat → List Int × Int
  | 0 => (h, 0)
  | i + 1 => ((zRun h i).1.set i (((zRun h i).2 + (zRun h i).1.getD i 0) % 67108864), ((zRun h i).2 + (zRun h i).1.getD i 0) / 67108864)
theorem zRun_length (h : List Int) : ∀ i, (zRun h i).1.length = h.length
  | 0 => rfl
  | i + 1 => by simp [zRun, zRun_length h i]
theorem zRun_far (h : List Int) : ∀ i j, i ≤ j → (zRun h i).1.getD j 0 = h.getD j 0
  | 0, _, _ => rfl
  | i + 1, j, hj => by rw [zRun, getD_set_far (by omega), zRun_far h i j (by omega)]
theorem zRun_small (h : List Int) (hl : h.length = 5) : ∀ i, i ≤ 5 → ∀ j, j < i → 0 ≤ (zRun h i).1.getD j 0 ∧ (zRun h i).1.getD j 0 < 67108864
  | 0, _, j, hj => by omega
  | i + 1, hi, j, hj => by
    rw [zRun]
    by_cases e : j = i
    · subst e
      rw [getD_set_same (by rw [zRun_length]; omega)]
      omega
    · rw [getD_set_far (by omega)]
      exact zRun_small h hl i (by omega) j (by omega)
theorem zRun_val (h : List Int) (hl : h.length = 5) : ∀ i, i ≤ 5 → gV 67108864 (zRun h i).1 + (zRun h i).2 * 67108864 ^ i = gV 67108864 h
  | 0, _ => by simp [zRun]
  | i + 1, hi => by
    have ih := zRun_val h hl i (by omega)
    rw [zRun, gV_set _ _ _ _ (by rw [zRun_length]; omega), ← ih, Int.pow_succ]
    generalize (zRun h i).2 = u
    generalize (zRun h i).1.getD i 0 = z
    generalize gV 67108864 (zRun h i).1 = V
    generalize hB : (67108864 : Int) ^ i = B
    have e : (u + z) = 67108864 * ((u + z) / 67108864) + (u + z) % 67108864 := (Int.mul_ediv_add_emod _ _).symm
    generalize (u + z) / 67108864 = q at *
    generalize (u + z) % 67108864 = r at *
    have : u = 67108864 * q + r - z := by omega
    subst this
    clear e ih hB hi hl
    grind
theorem zRun_carry {M : Int} (hM : 0 ≤ M) (h : List Int) (hn : ∀ i, 0 ≤ h.getD i 0 ∧ h.getD i 0 ≤ M) : ∀ i, 0 ≤ (zRun h i).2 ∧ (zRun h i).2 ≤ M
  | 0 => by simp only [zRun]; omega
  | i + 1 => by
    have ih := zRun_carry hM h hn i
    have := hn i
    rw [zRun, zRun_far h i i (Nat.le_refl _)]
    show 0 ≤ ((zRun h i).2 + h.getD i 0) / 67108864 ∧ ((zRun h i).2 + h.getD i 0) / 67108864 ≤ M
    omega
def setL (h : List Int) : List Int := (zRun h 5).1
theorem pow26 : (67108864 : Int) ^ 5 = two130 := by decide +kernel
theorem lim_range {l : List Int} (h : Lim 67108863 l) : 0 ≤ gV 67108864 l ∧ gV 67108864 l < two130 := by
  have := gV_range (B := 67108864) (by omega) (zs := l) (fun i hi => by have := h.getD (by omega) i; omega)
  rw [h.len, pow26] at this
  exact this
theorem setL_val {h : List Int} (hl : h.length = 5) : Lim 67108863 (setL h) ∧ gV 67108864 (setL h) = gV 67108864 h % two130 := by
  have hL : Lim 67108863 (setL h) := Lim.of (by unfold setL; rw [zRun_length, hl]) (fun i hi => by
    have := zRun_small h hl 5 (Nat.le_refl _) i hi
    unfold setL
    omega)
  refine ⟨hL, ?_⟩
  have h1 := zRun_val h hl 5 (Nat.le_refl _)
  have h2 := lim_range hL
  rw [pow26] at h1
  show gV 67108864 (setL h) = _
  have h3 : gV 67108864 (setL h) + (zRun h 5).2 * two130 = gV 67108864 h := h1
  rw [← h3]
  generalize gV 67108864 (setL h) = V at *
  generalize (zRun h 5).2 = c at *
  unfold two130 at *
  omega

/-- Whether a number and 5 reach 2^130. -/
def rRun (h : List Int) : Nat → Int
  | 0 => 5
  | i + 1 => (rRun h i + h.getD i 0) / 67108864
theorem rRun_val {h : List Int} (hl : h.length = 5) (hn : ∀ i, 0 ≤ h.getD i 0) : ∀ i, i ≤ 5 → rRun h i = (gV 67108864 (h.take i) + 5) / 67108864 ^ i
  | 0, _ => by simp [rRun, gV]
  | i + 1, hi => by
    rw [rRun, rRun_val hl hn i (by omega), gV_take_succ _ _ _ (by omega), Int.pow_succ]
    have hB : (0 : Int) < 67108864 ^ i := Int.pow_pos (by omega)
    generalize (67108864 : Int) ^ i = B at *
    rw [show (gV 67108864 (h.take i) + h.getD i 0 * B + 5) / (B * 67108864) = (gV 67108864 (h.take i) + h.getD i 0 * B + 5) / B / 67108864 from by rw [Int.ediv_ediv, if_neg (fun h => absurd h.1 (by omega)), Int.sub_zero], show gV 67108864 (h.take i) + h.getD i 0 * B + 5 = (gV 67108864 (h.take i) + 5) + h.getD i 0 * B by omega, Int.add_mul_ediv_right _ _ (by omega)]
theorem rRun_range {M : Int} {h : List Int} (hM : 5 ≤ M) (hn : ∀ i, 0 ≤ h.getD i 0 ∧ h.getD i 0 ≤ M) : ∀ i, 0 ≤ rRun h i ∧ rRun h i ≤ M
  | 0 => by simp only [rRun]; omega
  | i + 1 => by
    have ih := rRun_range hM hn i
    have := hn i
    simp only [rRun]
    omega
def redL (h : List Int) : List Int := setL (h.set 0 (h.getD 0 0 + 5 * rRun h 5))
theorem redL_val {h : List Int} (hl : h.length = 5) (hn : ∀ i, 0 ≤ h.getD i 0) (hv : gV 67108864 h < 2 * (pQ : Int)) : Lim 67108863 (redL h) ∧ gV 67108864 (redL h) = gV 67108864 h % (pQ : Int) := by
  have h1 := setL_val (h := h.set 0 (h.getD 0 0 + 5 * rRun h 5)) (by simp [hl])
  refine ⟨h1.1, h1.2.trans ?_⟩
  rw [gV_set _ _ _ _ (by omega), rRun_val hl hn 5 (Nat.le_refl _), List.take_of_length_le (by omega), pow26]
  have h0 : 0 ≤ gV 67108864 h := by
    have : ∀ (zs : List Int), (∀ i, 0 ≤ zs.getD i 0) → 0 ≤ gV 67108864 zs := by
      intro zs
      induction zs with
      | nil => intro _; exact Int.le_refl _
      | cons z r ih =>
        intro h
        have h0 : 0 ≤ z := h 0
        have h1 := ih (fun i => by have := h (i + 1); simpa using this)
        simp only [gV]
        omega
    exact this h hn
  generalize gV 67108864 h = V at *
  generalize h.getD 0 0 = z
  rw [Int.pow_zero, Int.mul_one]
  clear h1 hn
  unfold pQ at *
  unfold two130
  rcases Int.lt_or_le V 1361129467683753853853498429727072845819 with h | h
  · have q : (V + 5) / 1361129467683753853853498429727072845824 = 0 := by omega
    rw [q]
    omega
  · have q : (V + 5) / 1361129467683753853853498429727072845824 = 1 := by omega
    rw [q]
    omega

/-- Carried: from each limb to the next, from the highest to the lowest, and once more from there. -/
def carL : List Int → List Int
  | [a, b, c, d, e] =>
    let b1 := b + a / 67108864
    let c1 := c + b1 / 67108864
    let d1 := d + c1 / 67108864
    let e1 := e + d1 / 67108864
    let l := a % 67108864 + 5 * (e1 / 67108864)
    [l % 67108864, b1 % 67108864 + l / 67108864, c1 % 67108864, d1 % 67108864, e1 % 67108864]
  | _ => []
/-- What is nearly settled: the second limb may have 2^7 more. -/
def Near (l : List Int) : Prop := ∃ a b c d e, l = [a, b, c, d, e] ∧ (0 ≤ a ∧ a ≤ 67108863) ∧ (0 ≤ b ∧ b ≤ 67108991) ∧ (0 ≤ c ∧ c ≤ 67108863) ∧ (0 ≤ d ∧ d ≤ 67108863) ∧ (0 ≤ e ∧ e ≤ 67108863)
theorem Near.lim {l : List Int} (h : Near l) : Lim 67108991 l := by
  obtain ⟨a, b, c, d, e, rfl, h1, h2, h3, h4, h5⟩ := h
  exact ⟨a, b, c, d, e, rfl, by omega, by omega, by omega, by omega, by omega⟩
theorem Near.zero : Near (List.replicate 5 0) := ⟨0, 0, 0, 0, 0, rfl, by omega, by omega, by omega, by omega, by omega⟩
theorem Near.below {l : List Int} (h : Near l) : gV 67108864 l < 2 * (pQ : Int) := by
  obtain ⟨a, b, c, d, e, rfl, h1, h2, h3, h4, h5⟩ := h
  rw [gV5]
  unfold pQ
  omega
theorem carL_val {a b c d e : Int} (ha : 0 ≤ a ∧ a ≤ 378302368699121664) (hb : 0 ≤ b ∧ b ≤ 378302368699121664) (hc : 0 ≤ c ∧ c ≤ 378302368699121664) (hd : 0 ≤ d ∧ d ≤ 378302368699121664) (he : 0 ≤ e ∧ e ≤ 90071992547409920) :
    Near (carL [a, b, c, d, e]) ∧ gV 67108864 (carL [a, b, c, d, e]) % (pQ : Int) = gV 67108864 [a, b, c, d, e] % (pQ : Int) := by
  unfold carL
  simp only
  obtain ⟨b1, hb1⟩ : ∃ x, x = b + a / 67108864 := ⟨_, rfl⟩
  obtain ⟨c1, hc1⟩ : ∃ x, x = c + b1 / 67108864 := ⟨_, rfl⟩
  obtain ⟨d1, hd1⟩ : ∃ x, x = d + c1 / 67108864 := ⟨_, rfl⟩
  obtain ⟨e1, he1⟩ : ∃ x, x = e + d1 / 67108864 := ⟨_, rfl⟩
  obtain ⟨l, hl⟩ : ∃ x, x = a % 67108864 + 5 * (e1 / 67108864) := ⟨_, rfl⟩
  rw [← hb1, ← hc1, ← hd1, ← he1, ← hl]
  have b2 : 0 ≤ b1 ∧ b1 ≤ 378302374400000000 := by omega
  have c2 : 0 ≤ c1 ∧ c1 ≤ 378302374400000000 := by omega
  have d2 : 0 ≤ d1 ∧ d1 ≤ 378302374400000000 := by omega
  have e2 : 0 ≤ e1 ∧ e1 ≤ 90071998300000000 := by omega
  have l2 : 0 ≤ l ∧ l ≤ 6777996000 := by omega
  refine ⟨⟨_, _, _, _, _, rfl, by omega, by omega, by omega, by omega, by omega⟩, ?_⟩
  rw [gV5, gV5]
  have key : a + 67108864 * b + 4503599627370496 * c + 302231454903657293676544 * d + 20282409603651670423947251286016 * e =
      l % 67108864 + 67108864 * (b1 % 67108864 + l / 67108864) + 4503599627370496 * (c1 % 67108864) + 302231454903657293676544 * (d1 % 67108864) + 20282409603651670423947251286016 * (e1 % 67108864) + (pQ : Int) * (e1 / 67108864) := by
    unfold pQ
    omega
  rw [key, Int.add_mul_emod_self_left]

/-- A product, limb by limb. -/
def timS (x y : List Int) : List Int :=
  match x, y with
  | [a, b, c, d, e], [f, g, h, i, j] => [a * f + b * (5 * j) + c * (5 * i) + d * (5 * h) + e * (5 * g), a * g + b * f + c * (5 * j) + d * (5 * i) + e * (5 * h), a * h + b * g + c * f + d * (5 * j) + e * (5 * i), a * i + b * h + c * g + d * f + e * (5 * j), a * j + b * i + c * h + d * g + e * f]
  | _, _ => []
def timL (x y : List Int) : List Int := carL (timS x y)
theorem mulB {x y X Y : Int} (hx : 0 ≤ x ∧ x ≤ X) (hy : 0 ≤ y ∧ y ≤ Y) : 0 ≤ x * y ∧ x * y ≤ X * Y := ⟨Int.mul_nonneg hx.1 hy.1, Int.mul_le_mul hx.2 hy.2 hy.1 (by omega)⟩
theorem tim_id (a b c d e f g h i j : Int) : gV 67108864 [a, b, c, d, e] * gV 67108864 [f, g, h, i, j] = gV 67108864 (timS [a, b, c, d, e] [f, g, h, i, j]) + (pQ : Int) * ((b * j + c * i + d * h + e * g) + 67108864 * (c * j + d * i + e * h) + 4503599627370496 * (d * j + e * i) + 302231454903657293676544 * (e * j)) := by
  unfold timS
  simp only [gV5]
  unfold pQ
  grind
theorem timL_val {x y : List Int} (hx : Lim 268435455 x) (hy : Lim 67108863 y) : Near (timL x y) ∧ gV 67108864 (timL x y) % (pQ : Int) = gV 67108864 x * gV 67108864 y % (pQ : Int) := by
  obtain ⟨a, b, c, d, e, rfl, h1, h2, h3, h4, h5⟩ := hx
  obtain ⟨f, g, h, i, j, rfl, k1, k2, k3, k4, k5⟩ := hy
  have ef : ∀ {x y : Int}, 0 ≤ x ∧ x ≤ 268435455 → 0 ≤ y ∧ y ≤ 67108863 → 0 ≤ x * y ∧ x * y ≤ 18014398509481984 ∧ x * (5 * y) = 5 * (x * y) := fun {x y} hx hy => by
    have := mulB hx hy
    refine ⟨this.1, by omega, ?_⟩
    rw [← Int.mul_assoc, Int.mul_comm x 5, Int.mul_assoc]
  have key := carL_val (a := a * f + b * (5 * j) + c * (5 * i) + d * (5 * h) + e * (5 * g)) (b := a * g + b * f + c * (5 * j) + d * (5 * i) + e * (5 * h)) (c := a * h + b * g + c * f + d * (5 * j) + e * (5 * i)) (d := a * i + b * h + c * g + d * f + e * (5 * j)) (e := a * j + b * i + c * h + d * g + e * f)
    (by have := ef h1 k1; have := ef h2 k5; have := ef h3 k4; have := ef h4 k3; have := ef h5 k2; omega)
    (by have := ef h1 k2; have := ef h2 k1; have := ef h3 k5; have := ef h4 k4; have := ef h5 k3; omega)
    (by have := ef h1 k3; have := ef h2 k2; have := ef h3 k1; have := ef h4 k5; have := ef h5 k4; omega)
    (by have := ef h1 k4; have := ef h2 k3; have := ef h3 k2; have := ef h4 k1; have := ef h5 k5; omega)
    (by have := ef h1 k5; have := ef h2 k4; have := ef h3 k3; have := ef h4 k2; have := ef h5 k1; omega)
  refine ⟨key.1, key.2.trans ?_⟩
  rw [tim_id, Int.add_mul_emod_self_left]
  rfl

end Go.Proofs.Ytjnnhkodkbhbbaa
