/- The rest modulo the group order: the arithmetic of one round and of all. No program. Each theorem names its own conditions. -/
import Derived.Test.YtoebokeehhfboaaDoorSclMath
namespace Go.Proofs.YtoebokeehhfboaaDoor
open Go.RowKit
set_option linter.unusedVariables false
set_option linter.unusedSimpArgs false

def TAIL : List Int := [217437165, 19280293, 127719000, 262007343, 5342]
theorem gV_tail : gV 268435456 TAIL = tT := by decide +kernel
theorem TAIL_getD (j : Nat) : 0 ≤ TAIL.getD j 0 ∧ TAIL.getD j 0 < 268435456 := by
  rcases (by omega : j = 0 ∨ j = 1 ∨ j = 2 ∨ j = 3 ∨ j = 4 ∨ 5 ≤ j) with rfl | rfl | rfl | rfl | rfl | h
  · decide
  · decide
  · decide
  · decide
  · decide
  · rw [getD_out (by simpa [TAIL] using h)]
    omega

/-- The limb i goes off at the limbs below: n of the tail's limbs are done. -/
def tRun (x : List Int) (i : Nat) : Nat → List Int
  | 0 => x
  | n + 1 => (tRun x i n).set (i - 9 + n) ((tRun x i n).getD (i - 9 + n) 0 - (tRun x i n).getD i 0 * TAIL.getD n 0)
theorem tRun_length (x : List Int) (i : Nat) : ∀ n, (tRun x i n).length = x.length
  | 0 => rfl
  | n + 1 => by simp [tRun, tRun_length x i n]
theorem tRun_far (x : List Int) (i : Nat) : ∀ n j, (j < i - 9 ∨ i - 9 + n ≤ j) → (tRun x i n).getD j 0 = x.getD j 0
  | 0, _, _ => rfl
  | n + 1, j, h => by
    simp only [tRun]
    rw [getD_set_far (by omega)]
    exact tRun_far x i n j (by omega)
theorem tRun_top (x : List Int) (i : Nat) (hi : 9 ≤ i) : ∀ n, n ≤ 5 → (tRun x i n).getD i 0 = x.getD i 0 := fun n hn => tRun_far x i n i (by omega)
theorem tRun_in (x : List Int) (i : Nat) (hi : 9 ≤ i) (hx : i < x.length) : ∀ n j, n ≤ 5 → i - 9 ≤ j → j < i - 9 + n → (tRun x i n).getD j 0 = x.getD j 0 - x.getD i 0 * TAIL.getD (j - (i - 9)) 0
  | 0, j, _, h1, h2 => by omega
  | n + 1, j, hn, h1, h2 => by
    simp only [tRun]
    by_cases e : j = i - 9 + n
    · subst e
      rw [getD_set_same (by rw [tRun_length]; omega), tRun_top x i hi n (by omega), tRun_far x i n _ (by omega), Nat.add_sub_cancel_left]
    · rw [getD_set_far (by omega)]
      exact tRun_in x i hi hx n j (by omega) h1 (by omega)
theorem tRun_val (x : List Int) (i : Nat) (hi : 9 ≤ i) (hx : i < x.length) : ∀ n, n ≤ 5 → gV 268435456 (tRun x i n) = gV 268435456 x - x.getD i 0 * gV 268435456 (TAIL.take n) * 268435456 ^ (i - 9)
  | 0, _ => by simp [tRun, gV]
  | n + 1, hn => by
    simp only [tRun]
    rw [gV_set _ _ _ _ (by rw [tRun_length]; omega), tRun_val x i hi hx n (by omega), tRun_top x i hi n (by omega), gV_take_succ _ TAIL n (by simp [TAIL]; omega), Int.pow_add]
    generalize (tRun x i n).getD (i - 9 + n) 0 = a
    generalize (268435456 : Int) ^ (i - 9) = X
    generalize (268435456 : Int) ^ n = Y
    generalize gV 268435456 (TAIL.take n) = T
    generalize x.getD i 0 = u
    generalize TAIL.getD n 0 = t
    grind

/-- One round. -/
def rStep (x : List Int) (i : Nat) : List Int := cRun ((tRun x i 5).set i 0) (i - 9) 8

/-- What holds at the round's head. -/
structure RI (x : List Int) (i : Nat) (v : Int) : Prop where
  len : x.length = 19
  cong : ∃ k, gV 268435456 x = v + qQ * k
  low : ∀ j, j < i → 0 ≤ x.getD j 0 ∧ x.getD j 0 < 268435456
  here : -1 ≤ x.getD i 0 ∧ x.getD i 0 ≤ 268435456
  high : ∀ j, i < j → x.getD j 0 = 0

theorem RI.start {y : List Int} {v : Int} (h : Can y v) : RI y 18 v := by
  obtain ⟨h1, h2, h3, h4⟩ := h
  exact ⟨h1, ⟨0, by omega⟩, h3, by omega, fun j hj => getD_out (by omega)⟩

/-- A number's window: what lies from d on. -/
theorem RI.part {x : List Int} {i : Nat} {v : Int} (h : RI x i v) (hi : 9 ≤ i) (hi2 : i ≤ 18) :
    (∀ j, j < 19 → -1152921504606846976 ≤ ((tRun x i 5).set i 0).getD j 0 ∧ ((tRun x i 5).set i 0).getD j 0 ≤ 1152921504606846976) ∧
    gV 268435456 ((tRun x i 5).set i 0) = gV 268435456 x - x.getD i 0 * qQ * 268435456 ^ (i - 9) := by
  obtain ⟨h1, h2, h3, h4, h5⟩ := h
  refine ⟨fun j hj => ?_, ?_⟩
  · by_cases e : j = i
    · subst e
      rw [getD_set_same (by rw [tRun_length]; omega)]
      omega
    · rw [getD_set_far (by omega)]
      have hj2 : 0 ≤ x.getD j 0 ∧ x.getD j 0 < 268435456 := by
        rcases Nat.lt_or_ge j i with g | g
        · exact h3 j g
        · rw [h5 j (by omega)]; omega
      by_cases g : i - 9 ≤ j ∧ j < i - 9 + 5
      · rw [tRun_in x i hi (by omega) 5 j (by omega) g.1 g.2]
        have ht := TAIL_getD (j - (i - 9))
        generalize TAIL.getD (j - (i - 9)) 0 = t at *
        generalize x.getD i 0 = u at *
        generalize x.getD j 0 = z at *
        have b1 : u * t ≤ 268435456 * 268435456 := by
          rcases Int.le_total 0 u with g2 | g2
          · exact Int.mul_le_mul h4.2 (by omega) (by omega) (by omega)
          · have : u * t ≤ 0 := Int.mul_nonpos_of_nonpos_of_nonneg g2 ht.1
            omega
        have b2 : -268435456 ≤ u * t := by
          rcases Int.le_total 0 u with g2 | g2
          · have := Int.mul_nonneg g2 ht.1
            omega
          · have e1 : u = 0 ∨ u = -1 := by omega
            rcases e1 with rfl | rfl <;> omega
        omega
      · rw [tRun_far x i 5 j (by omega)]
        omega
  · rw [gV_set _ _ _ _ (by rw [tRun_length]; omega), tRun_val x i hi (by omega) 5 (by omega), tRun_top x i hi 5 (by omega)]
    have e1 : gV 268435456 (TAIL.take 5) = tT := gV_tail
    have e2 : (268435456 : Int) ^ i = 268435456 ^ 9 * 268435456 ^ (i - 9) := by rw [← Int.pow_add]; congr 1; omega
    have e3 : qQ = 268435456 ^ 9 + tT := by decide +kernel
    rw [e1, e2, e3]
    generalize (268435456 : Int) ^ (i - 9) = X
    generalize (268435456 : Int) ^ 9 = Y
    generalize x.getD i 0 = u
    grind

/-- A number that ends with the digit n. -/
theorem gV_ends {B : Int} (hB : 0 < B) {u : List Int} {n : Nat} (hn : n < u.length) (h : ∀ j, j < n → 0 ≤ u.getD j 0 ∧ u.getD j 0 < B) (hz : ∀ j, n < j → u.getD j 0 = 0) :
    ∃ l, 0 ≤ l ∧ l < B ^ n ∧ gV B u = l + B ^ n * u.getD n 0 := by
  have hr := gV_range hB (zs := u.take n) (fun i hi => by
    have hi2 : i < n := by simp at hi; omega
    rw [getD_take hi2]
    exact h i hi2)
  rw [List.length_take, Nat.min_eq_left (by omega)] at hr
  refine ⟨gV B (u.take n), hr.1, hr.2, ?_⟩
  rw [gV_cut B u n (by omega)]
  congr 2
  have hd : u.drop n = u.getD n 0 :: u.drop (n + 1) := by
    rw [List.drop_eq_getElem_cons hn, getD_eq hn]
  rw [hd, gV, gV_zero_of B (zs := u.drop (n + 1)) (fun i => by rw [getD_drop]; exact hz _ (by omega))]
  omega

theorem RI.step {x : List Int} {i : Nat} {v : Int} (h : RI x i v) (hi : 9 ≤ i) (hi2 : i ≤ 18) :
    RI (rStep x i) (i - 1) v ∧ -qQ < gV 268435456 ((rStep x i).drop (i - 9)) ∧ gV 268435456 ((rStep x i).drop (i - 9)) < qQ := by
  obtain ⟨p1, p2⟩ := h.part hi hi2
  obtain ⟨h1, ⟨k, h2⟩, h3, h4, h5⟩ := h
  have hlen : ((tRun x i 5).set i 0).length = 19 := by simp [tRun_length, h1]
  have hC := cRun_spec ((tRun x i 5).set i 0) (i - 9) 1152921504606846976 (by omega) 8 (by omega) (fun j _ hj => p1 j (by omega))
  change CR _ (rStep x i) (i - 9) 8 _ at hC
  obtain ⟨c1, c2, c3, c4, c5, c6⟩ := hC
  generalize rStep x i = y at *
  have yl : y.length = 19 := by omega
  have hlow : ∀ j, j < i - 1 → 0 ≤ y.getD j 0 ∧ y.getD j 0 < 268435456 := by
    intro j hj
    rcases Nat.lt_or_ge j (i - 9) with g | g
    · rw [c3 j g, getD_set_far (by omega), tRun_far x i 5 j (by omega)]
      exact h3 j (by omega)
    · exact c4 j g (by omega)
  have hhigh : ∀ j, i - 1 < j → y.getD j 0 = 0 := by
    intro j hj
    rw [c6 j (by omega)]
    by_cases e : j = i
    · subst e
      rw [getD_set_same (by rw [tRun_length]; omega)]
    · rw [getD_set_far (by omega), tRun_far x i 5 j (by omega)]
      exact h5 j (by omega)
  have ht : y.take (i - 9) = x.take (i - 9) := by
    refine take_eq (by omega) (by omega) (fun j hj => ?_)
    rw [c3 j hj, getD_set_far (by omega), tRun_far x i 5 j (by omega)]
  have e1 := gV_cut 268435456 y (i - 9) (by omega)
  have e2 := gV_cut 268435456 x (i - 9) (by omega)
  obtain ⟨lx, l1, l2, l3⟩ := gV_ends (B := 268435456) (by omega) (u := x.drop (i - 9)) (n := 9) (by simp; omega) (fun j hj => by rw [getD_drop]; exact h3 _ (by omega)) (fun j hj => by rw [getD_drop]; exact h5 _ (by omega))
  obtain ⟨ly, m1, m2, m3⟩ := gV_ends (B := 268435456) (by omega) (u := y.drop (i - 9)) (n := 8) (by simp; omega) (fun j hj => by rw [getD_drop]; exact hlow _ (by omega)) (fun j hj => by rw [getD_drop]; exact hhigh _ (by omega))
  rw [getD_drop, show i - 9 + 9 = i from by omega] at l3
  rw [getD_drop, show i - 9 + 8 = i - 1 from by omega] at m3
  have hX : 0 < (268435456 : Int) ^ (i - 9) := Int.pow_pos (by omega)
  have e3 : gV 268435456 (y.drop (i - 9)) = gV 268435456 (x.drop (i - 9)) - x.getD i 0 * qQ := by
    rw [ht] at e1
    rw [c2, p2, e2] at e1
    generalize (268435456 : Int) ^ (i - 9) = X at *
    refine Int.eq_of_mul_eq_mul_left (by omega : X ≠ 0) ?_
    rw [Int.mul_sub]
    have : X * (x.getD i 0 * qQ) = x.getD i 0 * qQ * X := Int.mul_comm _ _
    omega
  have hq : qQ = 268435456 ^ 9 + tT := by decide +kernel
  have hw : -qQ < gV 268435456 (y.drop (i - 9)) ∧ gV 268435456 (y.drop (i - 9)) < qQ ∧ -1 ≤ y.getD (i - 1) 0 ∧ y.getD (i - 1) 0 ≤ 268435456 := by
    have n9 : (268435456 : Int) ^ 9 = 7237005577332262213973186563042994240829374041602535252466099000494570602496 := by decide +kernel
    have n8 : (268435456 : Int) ^ 8 = 26959946667150639794667015087019630673637144422540572481103610249216 := by decide +kernel
    rw [l3] at e3
    rw [hq] at e3 ⊢
    rw [e3] at m3 ⊢
    rw [n9] at *
    rw [n8] at *
    unfold tT at *
    clear e1 e2 p2 c2 h2 hX
    generalize x.getD i 0 = u at *
    generalize y.getD (i - 1) 0 = z at *
    omega
  refine ⟨⟨yl, ⟨k - x.getD i 0 * 268435456 ^ (i - 9), ?_⟩, hlow, ⟨hw.2.2.1, hw.2.2.2⟩, hhigh⟩, hw.1, hw.2.1⟩
  rw [c2, p2, h2]
  generalize (268435456 : Int) ^ (i - 9) = X
  generalize x.getD i 0 = u
  generalize qQ = Q
  grind

/-- n rounds. -/
def rRun (x : List Int) : Nat → List Int
  | 0 => x
  | n + 1 => rStep (rRun x n) (18 - n)
theorem rRun_RI {x : List Int} {v : Int} (h : RI x 18 v) : ∀ n, n ≤ 10 → RI (rRun x n) (18 - n) v
  | 0, _ => h
  | n + 1, hn => by
    have := ((rRun_RI h n (by omega)).step (by omega) (by omega)).1
    rwa [show 18 - n - 1 = 18 - (n + 1) from by omega] at this
theorem rRun_end {x : List Int} {v : Int} (h : RI x 18 v) : -qQ < gV 268435456 (rRun x 10) ∧ gV 268435456 (rRun x 10) < qQ :=
  ((rRun_RI h 9 (by omega)).step (by omega) (by omega)).2

/-- The tail is put on, s times. -/
def aRun (x : List Int) (s : Int) : Nat → List Int
  | 0 => x
  | n + 1 => (aRun x s n).set n ((aRun x s n).getD n 0 + s * TAIL.getD n 0)
theorem aRun_length (x : List Int) (s : Int) : ∀ n, (aRun x s n).length = x.length
  | 0 => rfl
  | n + 1 => by simp [aRun, aRun_length x s n]
theorem aRun_far (x : List Int) (s : Int) : ∀ n j, n ≤ j → (aRun x s n).getD j 0 = x.getD j 0
  | 0, _, _ => rfl
  | n + 1, j, h => by
    simp only [aRun]
    rw [getD_set_far (by omega)]
    exact aRun_far x s n j (by omega)
theorem aRun_in (x : List Int) (s : Int) : ∀ n j, n ≤ x.length → j < n → (aRun x s n).getD j 0 = x.getD j 0 + s * TAIL.getD j 0
  | 0, j, _, h => by omega
  | n + 1, j, hn, h => by
    simp only [aRun]
    by_cases e : j = n
    · subst e
      rw [getD_set_same (by rw [aRun_length]; omega), aRun_far x s j j (by omega)]
    · rw [getD_set_far (by omega)]
      exact aRun_in x s n j (by omega) (by omega)
theorem aRun_val (x : List Int) (s : Int) : ∀ n, n ≤ 5 → n ≤ x.length → gV 268435456 (aRun x s n) = gV 268435456 x + s * gV 268435456 (TAIL.take n)
  | 0, _, _ => by simp [aRun, gV]
  | n + 1, hn, hl => by
    simp only [aRun]
    rw [gV_set _ _ _ _ (by rw [aRun_length]; omega), aRun_val x s n (by omega) (by omega), gV_take_succ _ TAIL n (by simp [TAIL]; omega)]
    generalize (aRun x s n).getD n 0 = a
    generalize (268435456 : Int) ^ n = Y
    generalize gV 268435456 (TAIL.take n) = T
    generalize TAIL.getD n 0 = t
    grind

/-- q is put on, where the number is below 0. -/
def sgn (x : List Int) : Int := if x.getD 8 0 < 0 then 1 else 0
def addQ (x : List Int) : List Int := (aRun x (sgn x) 5).set 8 ((aRun x (sgn x) 5).getD 8 0 + sgn x * 268435456)
def restF (x : List Int) : List Int := cRun (addQ (rRun x 10)) 0 8

/-- Limbs of a number below q. -/
structure Fin9 (y : List Int) (v : Int) : Prop where
  len : y.length = 19
  val : gV 268435456 y = v
  low : ∀ j, j < 8 → 0 ≤ y.getD j 0 ∧ y.getD j 0 < 268435456
  here : 0 ≤ y.getD 8 0 ∧ y.getD 8 0 ≤ 268435456
  high : ∀ j, 8 < j → y.getD j 0 = 0

theorem sgn_01 (x : List Int) : sgn x = 0 ∨ sgn x = 1 := by unfold sgn; split <;> simp
theorem addQ_range {x : List Int} {v : Int} (h : RI x 8 v) : (addQ x).length = 19 ∧ (∀ j, j < 19 → -1152921504606846976 ≤ (addQ x).getD j 0 ∧ (addQ x).getD j 0 ≤ 1152921504606846976) ∧ gV 268435456 (addQ x) = gV 268435456 x + sgn x * qQ ∧ (∀ j, 8 < j → (addQ x).getD j 0 = 0) := by
  obtain ⟨h1, h2, h3, h4, h5⟩ := h
  have hs := sgn_01 x
  unfold addQ
  generalize sgn x = s at *
  refine ⟨by simp [aRun_length, h1], fun j hj => ?_, ?_, fun j hj => ?_⟩
  · by_cases e : j = 8
    · subst e
      rw [getD_set_same (by rw [aRun_length]; omega), aRun_far x s 5 8 (by omega)]
      rcases hs with rfl | rfl <;> omega
    · rw [getD_set_far (by omega)]
      have hj2 : 0 ≤ x.getD j 0 ∧ x.getD j 0 < 268435456 := by
        rcases Nat.lt_or_ge j 8 with g | g
        · exact h3 j g
        · rw [h5 j (by omega)]; omega
      by_cases g : j < 5
      · rw [aRun_in x s 5 j (by omega) g]
        have ht := TAIL_getD j
        rcases hs with rfl | rfl <;> omega
      · rw [aRun_far x s 5 j (by omega)]
        omega
  · rw [gV_set _ _ _ _ (by rw [aRun_length]; omega), aRun_val x s 5 (by omega) (by omega)]
    have e1 : gV 268435456 (TAIL.take 5) = tT := gV_tail
    have e3 : qQ = 268435456 * 268435456 ^ 8 + tT := by decide +kernel
    rw [e1, e3]
    generalize (268435456 : Int) ^ 8 = Y
    generalize (aRun x s 5).getD 8 0 = a
    grind
  · rw [getD_set_far (by omega), aRun_far x s 5 j (by omega)]
    exact h5 j hj

theorem restF_spec {x : List Int} {v : Int} (h : RI x 18 v) : Fin9 (restF x) (v % qQ) := by
  have hR := rRun_RI h 10 (by omega)
  obtain ⟨q1, q2⟩ := rRun_end h
  unfold restF
  generalize rRun x 10 = y at *
  change RI y 8 v at hR
  obtain ⟨a1, a2, a3, a4⟩ := addQ_range hR
  obtain ⟨h1, ⟨k, h2⟩, h3, h4, h5⟩ := hR
  obtain ⟨l, l1, l2, l3⟩ := gV_ends (B := 268435456) (by omega) (u := y) (n := 8) (by omega) h3 h5
  have hv : 0 ≤ gV 268435456 (addQ y) ∧ gV 268435456 (addQ y) < qQ := by
    have n8 : (268435456 : Int) ^ 8 = 26959946667150639794667015087019630673637144422540572481103610249216 := by decide +kernel
    rw [a3]
    rw [n8] at l2 l3
    unfold sgn
    generalize y.getD 8 0 = u at *
    generalize gV 268435456 y = V at *
    split
    · omega
    · omega
  have hmod : gV 268435456 (addQ y) = v % qQ := by
    rw [← Int.emod_eq_of_lt hv.1 hv.2, a3, h2]
    rw [show v + qQ * k + sgn y * qQ = v + qQ * (k + sgn y) from by grind, Int.add_mul_emod_self_left]
  obtain ⟨c1, c2, c3, c4, c5, c6⟩ := cRun_spec (addQ y) 0 1152921504606846976 (by omega) 8 (by omega) (fun j _ hj => a2 j (by omega))
  generalize cRun (addQ y) 0 8 = z at *
  have hlow : ∀ j, j < 8 → 0 ≤ z.getD j 0 ∧ z.getD j 0 < 268435456 := fun j hj => c4 j (by omega) (by omega)
  have hhigh : ∀ j, 8 < j → z.getD j 0 = 0 := fun j hj => by rw [c6 j (by omega)]; exact a4 j hj
  obtain ⟨m, m1, m2, m3⟩ := gV_ends (B := 268435456) (by omega) (u := z) (n := 8) (by omega) hlow hhigh
  refine ⟨by omega, by rw [c2, hmod], hlow, ?_, hhigh⟩
  rw [c2] at m3
  have n8 : (268435456 : Int) ^ 8 = 26959946667150639794667015087019630673637144422540572481103610249216 := by decide +kernel
  rw [n8] at m2 m3
  unfold qQ at hv
  generalize z.getD 8 0 = u at *
  omega

end Go.Proofs.YtoebokeehhfboaaDoor
