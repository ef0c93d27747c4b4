/- A product modulo 2^130 - 5 of two numbers of seventeen digits to the base 256. No program. Each theorem names its own conditions. -/
import Derived.Test.YtjnnhkodkbhbbaaPolM
namespace Go.Proofs.Ytjnnhkodkbhbbaa
open Go.RowKit
set_option linter.unusedVariables false
set_option linter.unusedSimpArgs false

def sumI (f : Nat → Int) : Nat → Int
  | 0 => 0
  | n + 1 => sumI f n + f n
theorem sumI_congr {f g : Nat → Int} : ∀ n, (∀ i, i < n → f i = g i) → sumI f n = sumI g n
  | 0, _ => rfl
  | n + 1, h => by simp only [sumI, sumI_congr n (fun i hi => h i (by omega)), h n (by omega)]
theorem sumI_add (f g : Nat → Int) : ∀ n, sumI (fun i => f i + g i) n = sumI f n + sumI g n
  | 0 => rfl
  | n + 1 => by simp only [sumI, sumI_add f g n]; omega
theorem sumI_mul (c : Int) (f : Nat → Int) : ∀ n, sumI (fun i => c * f i) n = c * sumI f n
  | 0 => by simp [sumI]
  | n + 1 => by simp only [sumI, sumI_mul c f n, Int.mul_add]
theorem sumI_swap (f : Nat → Nat → Int) (m : Nat) : ∀ n, sumI (fun i => sumI (fun j => f i j) m) n = sumI (fun j => sumI (fun i => f i j) n) m
  | 0 => by
    have : ∀ m, sumI (fun _ => (0 : Int)) m = 0 := fun m => by induction m with
      | zero => rfl
      | succ m ih => simp only [sumI, ih]; rfl
    simp only [sumI]
    exact (this m).symm
  | n + 1 => by
    simp only [sumI]
    rw [sumI_swap f m n, ← sumI_add]
theorem gV_take_sum (B : Int) (zs : List Int) : ∀ n, n ≤ zs.length → gV B (zs.take n) = sumI (fun i => zs.getD i 0 * B ^ i) n
  | 0, _ => by simp [sumI, gV]
  | n + 1, h => by rw [gV_take_succ B zs n (by omega), gV_take_sum B zs n (by omega)]; rfl
theorem gV_sum (B : Int) (zs : List Int) : gV B zs = sumI (fun i => zs.getD i 0 * B ^ i) zs.length := by
  have := gV_take_sum B zs zs.length (Nat.le_refl _)
  rwa [List.take_length] at this

/-- What the digit j of the one is taken with, for the digit i of the product. -/
def tCo (r : List Int) (i j : Nat) : Int := if j ≤ i then r.getD (i - j) 0 else 320 * r.getD (i + 17 - j) 0
/-- The sum for the digit i, as far as j. -/
def tRun (h r : List Int) (i : Nat) : Nat → Int
  | 0 => 0
  | j + 1 => tRun h r i j + h.getD j 0 * tCo r i j
theorem tRun_sum (h r : List Int) (i : Nat) : ∀ n, tRun h r i n = sumI (fun j => h.getD j 0 * tCo r i j) n
  | 0 => rfl
  | n + 1 => by simp only [tRun, sumI, tRun_sum h r i n]
/-- The first k digits of the product. -/
def tList (h r : List Int) : Nat → List Int
  | 0 => List.replicate 17 0
  | k + 1 => (tList h r k).set k (tRun h r k 17)
theorem tList_length (h r : List Int) : ∀ k, (tList h r k).length = 17
  | 0 => by simp [tList]
  | k + 1 => by simp [tList, tList_length h r k]
theorem tList_getD (h r : List Int) : ∀ k, k ≤ 17 → ∀ i, (tList h r k).getD i 0 = if i < k then tRun h r i 17 else 0
  | 0, _, i => by
    rw [if_neg (by omega)]
    simp only [tList]
    rcases Nat.lt_or_ge i 17 with hi | hi
    · rw [getD_eq (by simp; exact hi), List.getElem_replicate]
    · exact getD_out (by simp; exact hi)
  | k + 1, hk, i => by
    rw [tList]
    by_cases e : i = k
    · subst e
      rw [getD_set_same (by rw [tList_length]; omega), if_pos (by omega)]
    · rw [getD_set_far (by omega), tList_getD h r k (by omega) i]
      by_cases h1 : i < k
      · rw [if_pos h1, if_pos (by omega)]
      · rw [if_neg h1, if_neg (by omega)]

/-- The digits that one digit of h is taken with are r, moved up by so many: 2^136 is 320. -/
theorem tCo_val (r : List Int) (j : Nat) (hj : j < 17) : ∃ q, sumI (fun i => tCo r i j * 256 ^ i) 17 = 256 ^ j * sumI (fun k => r.getD k 0 * 256 ^ k) 17 + (pQ : Int) * q := by
  unfold pQ
  rcases (by omega : j = 0 ∨ j = 1 ∨ j = 2 ∨ j = 3 ∨ j = 4 ∨ j = 5 ∨ j = 6 ∨ j = 7 ∨ j = 8 ∨ j = 9 ∨ j = 10 ∨ j = 11 ∨ j = 12 ∨ j = 13 ∨ j = 14 ∨ j = 15 ∨ j = 16) with rfl | rfl | rfl | rfl | rfl | rfl | rfl | rfl | rfl | rfl | rfl | rfl | rfl | rfl | rfl | rfl | rfl
  · exact ⟨0, by simp only [sumI, tCo, Nat.reduceLeDiff, Nat.reduceSub, Nat.reduceAdd, if_true, if_false, reduceIte, Nat.reducePow, Int.reducePow]; omega⟩
  · exact ⟨-(64 * (r.getD 16 0 * 1)), by simp only [sumI, tCo, Nat.reduceLeDiff, Nat.reduceSub, Nat.reduceAdd, if_true, if_false, reduceIte, Nat.reducePow, Int.reducePow]; omega⟩
  · exact ⟨-(64 * (r.getD 15 0 * 1 + r.getD 16 0 * 256)), by simp only [sumI, tCo, Nat.reduceLeDiff, Nat.reduceSub, Nat.reduceAdd, if_true, if_false, reduceIte, Nat.reducePow, Int.reducePow]; omega⟩
  · exact ⟨-(64 * (r.getD 14 0 * 1 + r.getD 15 0 * 256 + r.getD 16 0 * 65536)), by simp only [sumI, tCo, Nat.reduceLeDiff, Nat.reduceSub, Nat.reduceAdd, if_true, if_false, reduceIte, Nat.reducePow, Int.reducePow]; omega⟩
  · exact ⟨-(64 * (r.getD 13 0 * 1 + r.getD 14 0 * 256 + r.getD 15 0 * 65536 + r.getD 16 0 * 16777216)), by simp only [sumI, tCo, Nat.reduceLeDiff, Nat.reduceSub, Nat.reduceAdd, if_true, if_false, reduceIte, Nat.reducePow, Int.reducePow]; omega⟩
  · exact ⟨-(64 * (r.getD 12 0 * 1 + r.getD 13 0 * 256 + r.getD 14 0 * 65536 + r.getD 15 0 * 16777216 + r.getD 16 0 * 4294967296)), by simp only [sumI, tCo, Nat.reduceLeDiff, Nat.reduceSub, Nat.reduceAdd, if_true, if_false, reduceIte, Nat.reducePow, Int.reducePow]; omega⟩
  · exact ⟨-(64 * (r.getD 11 0 * 1 + r.getD 12 0 * 256 + r.getD 13 0 * 65536 + r.getD 14 0 * 16777216 + r.getD 15 0 * 4294967296 + r.getD 16 0 * 1099511627776)), by simp only [sumI, tCo, Nat.reduceLeDiff, Nat.reduceSub, Nat.reduceAdd, if_true, if_false, reduceIte, Nat.reducePow, Int.reducePow]; omega⟩
  · exact ⟨-(64 * (r.getD 10 0 * 1 + r.getD 11 0 * 256 + r.getD 12 0 * 65536 + r.getD 13 0 * 16777216 + r.getD 14 0 * 4294967296 + r.getD 15 0 * 1099511627776 + r.getD 16 0 * 281474976710656)), by simp only [sumI, tCo, Nat.reduceLeDiff, Nat.reduceSub, Nat.reduceAdd, if_true, if_false, reduceIte, Nat.reducePow, Int.reducePow]; omega⟩
  · exact ⟨-(64 * (r.getD 9 0 * 1 + r.getD 10 0 * 256 + r.getD 11 0 * 65536 + r.getD 12 0 * 16777216 + r.getD 13 0 * 4294967296 + r.getD 14 0 * 1099511627776 + r.getD 15 0 * 281474976710656 + r.getD 16 0 * 72057594037927936)), by simp only [sumI, tCo, Nat.reduceLeDiff, Nat.reduceSub, Nat.reduceAdd, if_true, if_false, reduceIte, Nat.reducePow, Int.reducePow]; omega⟩
  · exact ⟨-(64 * (r.getD 8 0 * 1 + r.getD 9 0 * 256 + r.getD 10 0 * 65536 + r.getD 11 0 * 16777216 + r.getD 12 0 * 4294967296 + r.getD 13 0 * 1099511627776 + r.getD 14 0 * 281474976710656 + r.getD 15 0 * 72057594037927936 + r.getD 16 0 * 18446744073709551616)), by simp only [sumI, tCo, Nat.reduceLeDiff, Nat.reduceSub, Nat.reduceAdd, if_true, if_false, reduceIte, Nat.reducePow, Int.reducePow]; omega⟩
  · exact ⟨-(64 * (r.getD 7 0 * 1 + r.getD 8 0 * 256 + r.getD 9 0 * 65536 + r.getD 10 0 * 16777216 + r.getD 11 0 * 4294967296 + r.getD 12 0 * 1099511627776 + r.getD 13 0 * 281474976710656 + r.getD 14 0 * 72057594037927936 + r.getD 15 0 * 18446744073709551616 + r.getD 16 0 * 4722366482869645213696)), by simp only [sumI, tCo, Nat.reduceLeDiff, Nat.reduceSub, Nat.reduceAdd, if_true, if_false, reduceIte, Nat.reducePow, Int.reducePow]; omega⟩
  · exact ⟨-(64 * (r.getD 6 0 * 1 + r.getD 7 0 * 256 + r.getD 8 0 * 65536 + r.getD 9 0 * 16777216 + r.getD 10 0 * 4294967296 + r.getD 11 0 * 1099511627776 + r.getD 12 0 * 281474976710656 + r.getD 13 0 * 72057594037927936 + r.getD 14 0 * 18446744073709551616 + r.getD 15 0 * 4722366482869645213696 + r.getD 16 0 * 1208925819614629174706176)), by simp only [sumI, tCo, Nat.reduceLeDiff, Nat.reduceSub, Nat.reduceAdd, if_true, if_false, reduceIte, Nat.reducePow, Int.reducePow]; omega⟩
  · exact ⟨-(64 * (r.getD 5 0 * 1 + r.getD 6 0 * 256 + r.getD 7 0 * 65536 + r.getD 8 0 * 16777216 + r.getD 9 0 * 4294967296 + r.getD 10 0 * 1099511627776 + r.getD 11 0 * 281474976710656 + r.getD 12 0 * 72057594037927936 + r.getD 13 0 * 18446744073709551616 + r.getD 14 0 * 4722366482869645213696 + r.getD 15 0 * 1208925819614629174706176 + r.getD 16 0 * 309485009821345068724781056)), by simp only [sumI, tCo, Nat.reduceLeDiff, Nat.reduceSub, Nat.reduceAdd, if_true, if_false, reduceIte, Nat.reducePow, Int.reducePow]; omega⟩
  · exact ⟨-(64 * (r.getD 4 0 * 1 + r.getD 5 0 * 256 + r.getD 6 0 * 65536 + r.getD 7 0 * 16777216 + r.getD 8 0 * 4294967296 + r.getD 9 0 * 1099511627776 + r.getD 10 0 * 281474976710656 + r.getD 11 0 * 72057594037927936 + r.getD 12 0 * 18446744073709551616 + r.getD 13 0 * 4722366482869645213696 + r.getD 14 0 * 1208925819614629174706176 + r.getD 15 0 * 309485009821345068724781056 + r.getD 16 0 * 79228162514264337593543950336)), by simp only [sumI, tCo, Nat.reduceLeDiff, Nat.reduceSub, Nat.reduceAdd, if_true, if_false, reduceIte, Nat.reducePow, Int.reducePow]; omega⟩
  · exact ⟨-(64 * (r.getD 3 0 * 1 + r.getD 4 0 * 256 + r.getD 5 0 * 65536 + r.getD 6 0 * 16777216 + r.getD 7 0 * 4294967296 + r.getD 8 0 * 1099511627776 + r.getD 9 0 * 281474976710656 + r.getD 10 0 * 72057594037927936 + r.getD 11 0 * 18446744073709551616 + r.getD 12 0 * 4722366482869645213696 + r.getD 13 0 * 1208925819614629174706176 + r.getD 14 0 * 309485009821345068724781056 + r.getD 15 0 * 79228162514264337593543950336 + r.getD 16 0 * 20282409603651670423947251286016)), by simp only [sumI, tCo, Nat.reduceLeDiff, Nat.reduceSub, Nat.reduceAdd, if_true, if_false, reduceIte, Nat.reducePow, Int.reducePow]; omega⟩
  · exact ⟨-(64 * (r.getD 2 0 * 1 + r.getD 3 0 * 256 + r.getD 4 0 * 65536 + r.getD 5 0 * 16777216 + r.getD 6 0 * 4294967296 + r.getD 7 0 * 1099511627776 + r.getD 8 0 * 281474976710656 + r.getD 9 0 * 72057594037927936 + r.getD 10 0 * 18446744073709551616 + r.getD 11 0 * 4722366482869645213696 + r.getD 12 0 * 1208925819614629174706176 + r.getD 13 0 * 309485009821345068724781056 + r.getD 14 0 * 79228162514264337593543950336 + r.getD 15 0 * 20282409603651670423947251286016 + r.getD 16 0 * 5192296858534827628530496329220096)), by simp only [sumI, tCo, Nat.reduceLeDiff, Nat.reduceSub, Nat.reduceAdd, if_true, if_false, reduceIte, Nat.reducePow, Int.reducePow]; omega⟩
  · exact ⟨-(64 * (r.getD 1 0 * 1 + r.getD 2 0 * 256 + r.getD 3 0 * 65536 + r.getD 4 0 * 16777216 + r.getD 5 0 * 4294967296 + r.getD 6 0 * 1099511627776 + r.getD 7 0 * 281474976710656 + r.getD 8 0 * 72057594037927936 + r.getD 9 0 * 18446744073709551616 + r.getD 10 0 * 4722366482869645213696 + r.getD 11 0 * 1208925819614629174706176 + r.getD 12 0 * 309485009821345068724781056 + r.getD 13 0 * 79228162514264337593543950336 + r.getD 14 0 * 20282409603651670423947251286016 + r.getD 15 0 * 5192296858534827628530496329220096 + r.getD 16 0 * 1329227995784915872903807060280344576)), by simp only [sumI, tCo, Nat.reduceLeDiff, Nat.reduceSub, Nat.reduceAdd, if_true, if_false, reduceIte, Nat.reducePow, Int.reducePow]; omega⟩
theorem sumI_part (r h : List Int) : ∀ n, n ≤ 17 → ∃ q, sumI (fun j => h.getD j 0 * sumI (fun i => tCo r i j * 256 ^ i) 17) n = sumI (fun j => h.getD j 0 * 256 ^ j) n * sumI (fun k => r.getD k 0 * 256 ^ k) 17 + (pQ : Int) * q
  | 0, _ => ⟨0, by simp [sumI]⟩
  | n + 1, hn => by
    obtain ⟨q, hq⟩ := sumI_part r h n (by omega)
    obtain ⟨q2, hq2⟩ := tCo_val r n (by omega)
    refine ⟨q + h.getD n 0 * q2, ?_⟩
    simp only [sumI] at hq hq2 ⊢
    rw [hq, hq2]
    grind
/-- The product of both numbers, modulo 2^130 - 5. -/
theorem tList_val {h r : List Int} (hh : h.length = 17) (hr : r.length = 17) : gV 256 (tList h r 17) % (pQ : Int) = gV 256 h * gV 256 r % (pQ : Int) := by
  have e1 : gV 256 (tList h r 17) = sumI (fun i => sumI (fun j => h.getD j 0 * (tCo r i j * 256 ^ i)) 17) 17 := by
    rw [gV_sum, tList_length]
    refine sumI_congr 17 (fun i hi => ?_)
    rw [tList_getD h r 17 (Nat.le_refl _) i, if_pos hi, tRun_sum, Int.mul_comm, ← sumI_mul]
    refine sumI_congr 17 (fun j hj => ?_)
    rw [Int.mul_comm, Int.mul_assoc]
  rw [sumI_swap] at e1
  have e2 : gV 256 (tList h r 17) = sumI (fun j => h.getD j 0 * sumI (fun i => tCo r i j * 256 ^ i) 17) 17 := by
    rw [e1]
    refine sumI_congr 17 (fun j hj => ?_)
    rw [sumI_mul]
  obtain ⟨q, hq⟩ := sumI_part r h 17 (Nat.le_refl _)
  have g1 := gV_sum 256 h
  have g2 := gV_sum 256 r
  rw [hh] at g1
  rw [hr] at g2
  rw [e2, hq, ← g1, ← g2, Int.add_mul_emod_self_left]

/-- Bounds of the sums. -/
theorem tRun_bound {h r : List Int} (hh : ∀ i, 0 ≤ h.getD i 0 ∧ h.getD i 0 ≤ 1024) (hr : ∀ i, 0 ≤ r.getD i 0 ∧ r.getD i 0 ≤ 255) (i : Nat) : ∀ j, 0 ≤ tRun h r i j ∧ tRun h r i j ≤ 83558400 * j
  | 0 => by simp [tRun]
  | j + 1 => by
    obtain ⟨b1, b2⟩ := tRun_bound hh hr i j
    have h1 := hh j
    have h2 : 0 ≤ tCo r i j ∧ tCo r i j ≤ 81600 := by
      unfold tCo
      split
      · have := hr (i - j)
        omega
      · have := hr (i + 17 - j)
        omega
    have h3 : 0 ≤ h.getD j 0 * tCo r i j := Int.mul_nonneg h1.1 h2.1
    have h4 : h.getD j 0 * tCo r i j ≤ 1024 * 81600 := Int.mul_le_mul h1.2 h2.2 h2.1 (by omega)
    rw [tRun]
    constructor <;> omega

/-- A number from 0 to 2^130 - 6, of one below 2^130. -/
def wRun (h : List Int) : Nat → List Int × Int
  | 0 => (h, 5)
  | i + 1 => ((wRun h i).1.set i (((wRun h i).2 + (wRun h i).1.getD i 0) % 256), ((wRun h i).2 + (wRun h i).1.getD i 0) / 256)
theorem wRun_length (h : List Int) : ∀ i, (wRun h i).1.length = h.length
  | 0 => rfl
  | i + 1 => by simp [wRun, wRun_length h i]
theorem wRun_far (h : List Int) : ∀ i j, i ≤ j → (wRun h i).1.getD j 0 = h.getD j 0
  | 0, _, _ => rfl
  | i + 1, j, hj => by
    rw [wRun, getD_set_far (by omega), wRun_far h i j (by omega)]
theorem wRun_small (h : List Int) (hl : h.length = 17) : ∀ i, i ≤ 17 → ∀ j, j < i → 0 ≤ (wRun h i).1.getD j 0 ∧ (wRun h i).1.getD j 0 < 256
  | 0, _, j, hj => by omega
  | i + 1, hi, j, hj => by
    rw [wRun]
    by_cases e : j = i
    · subst e
      rw [getD_set_same (by rw [wRun_length]; omega)]
      omega
    · rw [getD_set_far (by omega)]
      exact wRun_small h hl i (by omega) j (by omega)
theorem wRun_val (h : List Int) (hl : h.length = 17) : ∀ i, i ≤ 17 → gV 256 (wRun h i).1 + (wRun h i).2 * 256 ^ i = gV 256 h + 5
  | 0, _ => by simp [wRun]
  | i + 1, hi => by
    have ih := wRun_val h hl i (by omega)
    rw [wRun, gV_set _ _ _ _ (by rw [wRun_length]; omega), ← ih, Int.pow_succ]
    generalize (wRun h i).2 = u
    generalize (wRun h i).1.getD i 0 = z
    generalize gV 256 (wRun h i).1 = V
    generalize hB : (256 : Int) ^ i = B
    have e : (u + z) = 256 * ((u + z) / 256) + (u + z) % 256 := (Int.mul_ediv_add_emod _ _).symm
    generalize (u + z) / 256 = q at *
    generalize (u + z) % 256 = r at *
    have : u = 256 * q + r - z := by omega
    subst this
    grind
theorem wRun_u (h : List Int) (hc : ∀ i, 0 ≤ h.getD i 0 ∧ h.getD i 0 < 256) : ∀ i, 0 ≤ (wRun h i).2 ∧ (wRun h i).2 ≤ 5
  | 0 => by simp [wRun]
  | i + 1 => by
    have ih := wRun_u h hc i
    have := hc i
    rw [wRun, wRun_far h i i (Nat.le_refl _)]
    show 0 ≤ ((wRun h i).2 + h.getD i 0) / 256 ∧ ((wRun h i).2 + h.getD i 0) / 256 ≤ 5
    omega
theorem Can17.digit {h : List Int} (hc : Can17 h) (i : Nat) : 0 ≤ h.getD i 0 ∧ h.getD i 0 < 256 := by
  obtain ⟨hl, h1, h2⟩ := hc
  rcases Nat.lt_or_ge i 16 with hi | hi
  · exact h1 i hi
  · rcases Nat.lt_or_ge i 17 with hi2 | hi2
    · have : i = 16 := by omega
      subst this
      omega
    · rw [getD_out (by omega)]
      omega
theorem Can17.range {h : List Int} (hc : Can17 h) : 0 ≤ gV 256 h ∧ gV 256 h < two130 := by
  have hd := digits16 hc.1 hc.2.1
  have h17 := gV_17 hc.1
  have := hc.2.2
  unfold two130
  omega
/-- What is taken for the whole number. -/
def wOut (h : List Int) : List Int := if 4 ≤ (wRun h 17).1.getD 16 0 then (wRun h 17).1.set 16 ((wRun h 17).1.getD 16 0 - 4) else h
theorem wOut_val {h : List Int} (hc : Can17 h) : (wOut h).length = 17 ∧ (∀ i, i < 17 → 0 ≤ (wOut h).getD i 0 ∧ (wOut h).getD i 0 < 256) ∧ gV 256 (wOut h) = gV 256 h % (pQ : Int) := by
  have hl := hc.1
  have hr := hc.range
  have hlen : (wRun h 17).1.length = 17 := by rw [wRun_length, hl]
  have hs := wRun_small h hl 17 (Nat.le_refl _)
  have hv := wRun_val h hl 17 (Nat.le_refl _)
  have hu := wRun_u h hc.digit 17
  have hg := gV_range (B := 256) (by omega) (zs := (wRun h 17).1) (fun i hi => hs i (by omega))
  have hd := digits16 hlen (fun j hj => hs j (by omega))
  have h17 := gV_17 hlen
  have p17 : (256 : Int) ^ 17 = 87112285931760246646623899502532662132736 := by decide +kernel
  rw [p17] at hv
  have hs16 := hs 16 (by omega)
  unfold two130 at hr
  unfold wOut pQ
  by_cases h4 : 4 ≤ (wRun h 17).1.getD 16 0
  · rw [if_pos h4]
    refine ⟨by simp [hlen], fun i hi => ?_, ?_⟩
    · by_cases e : i = 16
      · subst e
        rw [getD_set_same (by omega)]
        omega
      · rw [getD_set_far (by omega)]
        exact hs i hi
    · rw [gV_set _ _ _ _ (by omega), pow_16]
      generalize gV 256 (wRun h 17).1 = W at *
      generalize gV 256 h = V at *
      generalize (wRun h 17).2 = u at *
      generalize (wRun h 17).1.getD 16 0 = z at *
      generalize gV 256 ((wRun h 17).1.take 16) = D at *
      clear hs hg p17 hlen
      have u0 : u = 0 := by omega
      subst u0
      have z4 : z = 4 := by omega
      subst z4
      have ev : V % 1361129467683753853853498429727072845819 = V - 1361129467683753853853498429727072845819 := by
        rw [← Int.sub_emod_right, Int.emod_eq_of_lt (by omega) (by omega)]
      show W + (4 - 4 - 4) * 340282366920938463463374607431768211456 = V % 1361129467683753853853498429727072845819
      rw [ev]
      omega
  · rw [if_neg h4]
    refine ⟨hl, fun i hi => hc.digit i, ?_⟩
    generalize gV 256 (wRun h 17).1 = W at *
    generalize gV 256 h = V at *
    generalize (wRun h 17).2 = u at *
    generalize (wRun h 17).1.getD 16 0 = z at *
    generalize gV 256 ((wRun h 17).1.take 16) = D at *
    clear hs hg p17 hlen
    omega

end Go.Proofs.Ytjnnhkodkbhbbaa
