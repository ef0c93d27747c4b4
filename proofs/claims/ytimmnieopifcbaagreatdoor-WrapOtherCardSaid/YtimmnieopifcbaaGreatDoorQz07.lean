/- Texts that belong together, one behind the other. -/
import Derived.Test.YtimmnieopifcbaaGreatDoorQz06
namespace Go.Proofs.YtimmnieopifcbaaGreatDoor
set_option linter.unusedVariables false
set_option maxRecDepth 100000
set_option maxHeartbeats 32000000
set_option linter.unusedSimpArgs false
open Go.RowKit
def sumI (f : Nat → Int) : Nat → Int
 | 0 => 0
 | n + 1 => sumI f n + f n
theorem sumI_congr {f g : Nat → Int} : ∀ n, (∀ i, i < n → f i = g i) → sumI f n = sumI g n
 | 0, _ => rfl
 | n + 1, h => by simp only [sumI, sumI_congr n (fun i hi => h i (by omega)), h n (by omega)]
theorem sumI_add (f g : Nat → Int) : ∀ n, sumI (fun i => f i + g i) n = sumI f n + sumI g n
 | 0 => rfl
 | n + 1 => by simp only [sumI, sumI_add f g n]; omega
theorem sumI_mul (c : Int) (f : Nat → Int) : ∀ n, sumI (fun i => c * f i) n = c * sumI f n
 | 0 => by simp [sumI]
 | n + 1 => by simp only [sumI, sumI_mul c f n, Int.mul_add]
theorem sumI_swap (f : Nat → Nat → Int) (m : Nat) : ∀ n, sumI (fun i => sumI (fun j => f i j) m) n = sumI (fun j => sumI (fun i => f i j) n) m
 | 0 => by
  have : ∀ m, sumI (fun _ => (0 : Int)) m = 0 := fun m => by induction m with
   | zero => rfl
   | succ m ih => simp only [sumI, ih]; rfl
  simp only [sumI]
  exact (this m).symm
 | n + 1 => by
  simp only [sumI]
  rw [sumI_swap f m n, ← sumI_add]
theorem gV_take_sum (B : Int) (zs : List Int) : ∀ n, n ≤ zs.length → gV B (zs.take n) = sumI (fun i => zs.getD i 0 * B ^ i) n
 | 0, _ => by simp [sumI, gV]
 | n + 1, h => by rw [gV_take_succ B zs n (by omega), gV_take_sum B zs n (by omega)]; rfl
theorem gV_sum (B : Int) (zs : List Int) : gV B zs = sumI (fun i => zs.getD i 0 * B ^ i) zs.length := by
 have := gV_take_sum B zs zs.length (Nat.le_refl _)
 rwa [List.take_length] at this
def tCo (r : List Int) (i j : Nat) : Int := if j ≤ i then r.getD (i - j) 0 else 320 * r.getD (i + 17 - j) 0
def tRun (h r : List Int) (i : Nat) : Nat → Int
 | 0 => 0
 | j + 1 => tRun h r i j + h.getD j 0 * tCo r i j
theorem tRun_sum (h r : List Int) (i : Nat) : ∀ n, tRun h r i n = sumI (fun j => h.getD j 0 * tCo r i j) n
 | 0 => rfl
 | n + 1 => by simp only [tRun, sumI, tRun_sum h r i n]
def tList (h r : List Int) : Nat → List Int
 | 0 => List.replicate 17 0
 | k + 1 => (tList h r k).set k (tRun h r k 17)
theorem zeg (h r : List Int) : ∀ k, (tList h r k).length = 17
 | 0 => by simp [tList]
 | k + 1 => by simp [tList, zeg h r k]
theorem tList_getD (h r : List Int) : ∀ k, k ≤ 17 → ∀ i, (tList h r k).getD i 0 = if i < k then tRun h r i 17 else 0
 | 0, _, i => by
  rw [if_neg (by omega)]
  simp only [tList]
  rcases Nat.lt_or_ge i 17 with hi | hi
  ·rw [getD_eq (by simp; exact hi), List.getElem_replicate]
  ·exact getD_out (by simp; exact hi)
 | k + 1, hk, i => by
  rw [tList]
  by_cases e : i = k
  ·subst e
   rw [zan (by rw [zeg]; omega), if_pos (by omega)]
  ·rw [zah (by omega), tList_getD h r k (by omega) i]
   by_cases h1 : i < k
   ·rw [if_pos h1, if_pos (by omega)]
   ·rw [if_neg h1, if_neg (by omega)]
theorem tCo_val (r : List Int) (j : Nat) (hj : j < 17) : ∃ q, sumI (fun i => tCo r i j * 256 ^ i) 17 = 256 ^ j * sumI (fun k => r.getD k 0 * 256 ^ k) 17 + (pQ : Int) * q := by
 unfold pQ
 rcases (by omega : j = 0 ∨ j = 1 ∨ j = 2 ∨ j = 3 ∨ j = 4 ∨ j = 5 ∨ j = 6 ∨ j = 7 ∨ j = 8 ∨ j = 9 ∨ j = 10 ∨ j = 11 ∨ j = 12 ∨ j = 13 ∨ j = 14 ∨ j = 15 ∨ j = 16) with rfl | rfl | rfl | rfl | rfl | rfl | rfl | rfl | rfl | rfl | rfl | rfl | rfl | rfl | rfl | rfl | rfl
 ·exact ⟨0, by simp only [sumI, tCo, Nat.reduceLeDiff, Nat.reduceSub, Nat.reduceAdd, if_true, if_false, reduceIte, Nat.reducePow, Int.reducePow]; omega⟩
 ·exact ⟨-(64 * (r.getD 16 0 * 1)), by simp only [sumI, tCo, Nat.reduceLeDiff, Nat.reduceSub, Nat.reduceAdd, if_true, if_false, reduceIte, Nat.reducePow, Int.reducePow]; omega⟩
 ·exact ⟨-(64 * (r.getD 15 0 * 1 + r.getD 16 0 * 256)), by simp only [sumI, tCo, Nat.reduceLeDiff, Nat.reduceSub, Nat.reduceAdd, if_true, if_false, reduceIte, Nat.reducePow, Int.reducePow]; omega⟩
 ·exact ⟨-(64 * (r.getD 14 0 * 1 + r.getD 15 0 * 256 + r.getD 16 0 * 65536)), by simp only [sumI, tCo, Nat.reduceLeDiff, Nat.reduceSub, Nat.reduceAdd, if_true, if_false, reduceIte, Nat.reducePow, Int.reducePow]; omega⟩
 ·exact ⟨-(64 * (r.getD 13 0 * 1 + r.getD 14 0 * 256 + r.getD 15 0 * 65536 + r.getD 16 0 * 16777216)), by simp only [sumI, tCo, Nat.reduceLeDiff, Nat.reduceSub, Nat.reduceAdd, if_true, if_false, reduceIte, Nat.reducePow, Int.reducePow]; omega⟩
 ·exact ⟨-(64 * (r.getD 12 0 * 1 + r.getD 13 0 * 256 + r.getD 14 0 * 65536 + r.getD 15 0 * 16777216 + r.getD 16 0 * 4294967296)), by simp only [sumI, tCo, Nat.reduceLeDiff, Nat.reduceSub, Nat.reduceAdd, if_true, if_false, reduceIte, Nat.reducePow, Int.reducePow]; omega⟩
 ·exact ⟨-(64 * (r.getD 11 0 * 1 + r.getD 12 0 * 256 + r.getD 13 0 * 65536 + r.getD 14 0 * 16777216 + r.getD 15 0 * 4294967296 + r.getD 16 0 * 1099511627776)), by simp only [sumI, tCo, Nat.reduceLeDiff, Nat.reduceSub, Nat.reduceAdd, if_true, if_false, reduceIte, Nat.reducePow, Int.reducePow]; omega⟩
 ·exact ⟨-(64 * (r.getD 10 0 * 1 + r.getD 11 0 * 256 + r.getD 12 0 * 65536 + r.getD 13 0 * 16777216 + r.getD 14 0 * 4294967296 + r.getD 15 0 * 1099511627776 + r.getD 16 0 * 281474976710656)), by simp only [sumI, tCo, Nat.reduceLeDiff, Nat.reduceSub, Nat.reduceAdd, if_true, if_false, reduceIte, Nat.reducePow, Int.reducePow]; omega⟩
 ·exact ⟨-(64 * (r.getD 9 0 * 1 + r.getD 10 0 * 256 + r.getD 11 0 * 65536 + r.getD 12 0 * 16777216 + r.getD 13 0 * 4294967296 + r.getD 14 0 * 1099511627776 + r.getD 15 0 * 281474976710656 + r.getD 16 0 * 72057594037927936)), by simp only [sumI, tCo, Nat.reduceLeDiff, Nat.reduceSub, Nat.reduceAdd, if_true, if_false, reduceIte, Nat.reducePow, Int.reducePow]; omega⟩
 ·exact ⟨-(64 * (r.getD 8 0 * 1 + r.getD 9 0 * 256 + r.getD 10 0 * 65536 + r.getD 11 0 * 16777216 + r.getD 12 0 * 4294967296 + r.getD 13 0 * 1099511627776 + r.getD 14 0 * 281474976710656 + r.getD 15 0 * 72057594037927936 + r.getD 16 0 * 18446744073709551616)), by simp only [sumI, tCo, Nat.reduceLeDiff, Nat.reduceSub, Nat.reduceAdd, if_true, if_false, reduceIte, Nat.reducePow, Int.reducePow]; omega⟩
 ·exact ⟨-(64 * (r.getD 7 0 * 1 + r.getD 8 0 * 256 + r.getD 9 0 * 65536 + r.getD 10 0 * 16777216 + r.getD 11 0 * 4294967296 + r.getD 12 0 * 1099511627776 + r.getD 13 0 * 281474976710656 + r.getD 14 0 * 72057594037927936 + r.getD 15 0 * 18446744073709551616 + r.getD 16 0 * 4722366482869645213696)), by simp only [sumI, tCo, Nat.reduceLeDiff, Nat.reduceSub, Nat.reduceAdd, if_true, if_false, reduceIte, Nat.reducePow, Int.reducePow]; omega⟩
 ·exact ⟨-(64 * (r.getD 6 0 * 1 + r.getD 7 0 * 256 + r.getD 8 0 * 65536 + r.getD 9 0 * 16777216 + r.getD 10 0 * 4294967296 + r.getD 11 0 * 1099511627776 + r.getD 12 0 * 281474976710656 + r.getD 13 0 * 72057594037927936 + r.getD 14 0 * 18446744073709551616 + r.getD 15 0 * 4722366482869645213696 + r.getD 16 0 * 1208925819614629174706176)), by simp only [sumI, tCo, Nat.reduceLeDiff, Nat.reduceSub, Nat.reduceAdd, if_true, if_false, reduceIte, Nat.reducePow, Int.reducePow]; omega⟩
 ·exact ⟨-(64 * (r.getD 5 0 * 1 + r.getD 6 0 * 256 + r.getD 7 0 * 65536 + r.getD 8 0 * 16777216 + r.getD 9 0 * 4294967296 + r.getD 10 0 * 1099511627776 + r.getD 11 0 * 281474976710656 + r.getD 12 0 * 72057594037927936 + r.getD 13 0 * 18446744073709551616 + r.getD 14 0 * 4722366482869645213696 + r.getD 15 0 * 1208925819614629174706176 + r.getD 16 0 * 309485009821345068724781056)), by simp only [sumI, tCo, Nat.reduceLeDiff, Nat.reduceSub, Nat.reduceAdd, if_true, if_false, reduceIte, Nat.reducePow, Int.reducePow]; omega⟩
 ·exact ⟨-(64 * (r.getD 4 0 * 1 + r.getD 5 0 * 256 + r.getD 6 0 * 65536 + r.getD 7 0 * 16777216 + r.getD 8 0 * 4294967296 + r.getD 9 0 * 1099511627776 + r.getD 10 0 * 281474976710656 + r.getD 11 0 * 72057594037927936 + r.getD 12 0 * 18446744073709551616 + r.getD 13 0 * 4722366482869645213696 + r.getD 14 0 * 1208925819614629174706176 + r.getD 15 0 * 309485009821345068724781056 + r.getD 16 0 * 79228162514264337593543950336)), by simp only [sumI, tCo, Nat.reduceLeDiff, Nat.reduceSub, Nat.reduceAdd, if_true, if_false, reduceIte, Nat.reducePow, Int.reducePow]; omega⟩
 ·exact ⟨-(64 * (r.getD 3 0 * 1 + r.getD 4 0 * 256 + r.getD 5 0 * 65536 + r.getD 6 0 * 16777216 + r.getD 7 0 * 4294967296 + r.getD 8 0 * 1099511627776 + r.getD 9 0 * 281474976710656 + r.getD 10 0 * 72057594037927936 + r.getD 11 0 * 18446744073709551616 + r.getD 12 0 * 4722366482869645213696 + r.getD 13 0 * 1208925819614629174706176 + r.getD 14 0 * 309485009821345068724781056 + r.getD 15 0 * 79228162514264337593543950336 + r.getD 16 0 * 20282409603651670423947251286016)), by simp only [sumI, tCo, Nat.reduceLeDiff, Nat.reduceSub, Nat.reduceAdd, if_true, if_false, reduceIte, Nat.reducePow, Int.reducePow]; omega⟩
 ·exact ⟨-(64 * (r.getD 2 0 * 1 + r.getD 3 0 * 256 + r.getD 4 0 * 65536 + r.getD 5 0 * 16777216 + r.getD 6 0 * 4294967296 + r.getD 7 0 * 1099511627776 + r.getD 8 0 * 281474976710656 + r.getD 9 0 * 72057594037927936 + r.getD 10 0 * 18446744073709551616 + r.getD 11 0 * 4722366482869645213696 + r.getD 12 0 * 1208925819614629174706176 + r.getD 13 0 * 309485009821345068724781056 + r.getD 14 0 * 79228162514264337593543950336 + r.getD 15 0 * 20282409603651670423947251286016 + r.getD 16 0 * 5192296858534827628530496329220096)), by simp only [sumI, tCo, Nat.reduceLeDiff, Nat.reduceSub, Nat.reduceAdd, if_true, if_false, reduceIte, Nat.reducePow, Int.reducePow]; omega⟩
 ·exact ⟨-(64 * (r.getD 1 0 * 1 + r.getD 2 0 * 256 + r.getD 3 0 * 65536 + r.getD 4 0 * 16777216 + r.getD 5 0 * 4294967296 + r.getD 6 0 * 1099511627776 + r.getD 7 0 * 281474976710656 + r.getD 8 0 * 72057594037927936 + r.getD 9 0 * 18446744073709551616 + r.getD 10 0 * 4722366482869645213696 + r.getD 11 0 * 1208925819614629174706176 + r.getD 12 0 * 309485009821345068724781056 + r.getD 13 0 * 79228162514264337593543950336 + r.getD 14 0 * 20282409603651670423947251286016 + r.getD 15 0 * 5192296858534827628530496329220096 + r.getD 16 0 * 1329227995784915872903807060280344576)), by simp only [sumI, tCo, Nat.reduceLeDiff, Nat.reduceSub, Nat.reduceAdd, if_true, if_false, reduceIte, Nat.reducePow, Int.reducePow]; omega⟩
theorem sumI_part (r h : List Int) : ∀ n, n ≤ 17 → ∃ q, sumI (fun j => h.getD j 0 * sumI (fun i => tCo r i j * 256 ^ i) 17) n = sumI (fun j => h.getD j 0 * 256 ^ j) n * sumI (fun k => r.getD k 0 * 256 ^ k) 17 + (pQ : Int) * q
 | 0, _ => ⟨0, by simp [sumI]⟩
 | n + 1, hn => by
  obtain ⟨q, hq⟩ := sumI_part r h n (by omega)
  obtain ⟨q2, hq2⟩ := tCo_val r n (by omega)
  refine ⟨q + h.getD n 0 * q2, ?_⟩
  simp only [sumI] at hq hq2 ⊢
  rw [hq, hq2]
  grind
theorem tList_val {h r : List Int} (hh : h.length = 17) (hr : r.length = 17) : gV 256 (tList h r 17) % (pQ : Int) = gV 256 h * gV 256 r % (pQ : Int) := by
 have e1 : gV 256 (tList h r 17) = sumI (fun i => sumI (fun j => h.getD j 0 * (tCo r i j * 256 ^ i)) 17) 17 := by
  rw [gV_sum, zeg]
  refine sumI_congr 17 (fun i hi => ?_)
  rw [tList_getD h r 17 (Nat.le_refl _) i, if_pos hi, tRun_sum, Int.mul_comm, ← sumI_mul]
  refine sumI_congr 17 (fun j hj => ?_)
  rw [Int.mul_comm, Int.mul_assoc]
 rw [sumI_swap] at e1
 have e2 : gV 256 (tList h r 17) = sumI (fun j => h.getD j 0 * sumI (fun i => tCo r i j * 256 ^ i) 17) 17 := by
  rw [e1]
  refine sumI_congr 17 (fun j hj => ?_)
  rw [sumI_mul]
 obtain ⟨q, hq⟩ := sumI_part r h 17 (Nat.le_refl _)
 have g1 := gV_sum 256 h
 have g2 := gV_sum 256 r
 rw [hh] at g1
 rw [hr] at g2
 rw [e2, hq, ← g1, ← g2, Int.add_mul_emod_self_left]
theorem tRun_bound {h r : List Int} (hh : ∀ i, 0 ≤ h.getD i 0 ∧ h.getD i 0 ≤ 1024) (hr : ∀ i, 0 ≤ r.getD i 0 ∧ r.getD i 0 ≤ 255) (i : Nat) : ∀ j, 0 ≤ tRun h r i j ∧ tRun h r i j ≤ 83558400 * j
 | 0 => by simp [tRun]
 | j + 1 => by
  obtain ⟨b1, b2⟩ := tRun_bound hh hr i j
  have h1 := hh j
  have h2 : 0 ≤ tCo r i j ∧ tCo r i j ≤ 81600 := by
   unfold tCo
   split
   ·have := hr (i - j)
    omega
   ·have := hr (i + 17 - j)
    omega
  have h3 : 0 ≤ h.getD j 0 * tCo r i j := Int.mul_nonneg h1.1 h2.1
  have h4 : h.getD j 0 * tCo r i j ≤ 1024 * 81600 := Int.mul_le_mul h1.2 h2.2 h2.1 (by omega)
  rw [tRun]
  constructor <;> omega
def wRun (h : List Int) : Nat → List Int × Int
 | 0 => (h, 5)
 | i + 1 => ((wRun h i).1.set i (((wRun h i).2 + (wRun h i).1.getD i 0) % 256), ((wRun h i).2 + (wRun h i).1.getD i 0) / 256)
theorem wRun_length (h : List Int) : ∀ i, (wRun h i).1.length = h.length
 | 0 => rfl
 | i + 1 => by simp [wRun, wRun_length h i]
theorem wRun_far (h : List Int) : ∀ i j, i ≤ j → (wRun h i).1.getD j 0 = h.getD j 0
 | 0, _, _ => rfl
 | i + 1, j, hj => by
  rw [wRun, zah (by omega), wRun_far h i j (by omega)]
theorem wRun_small (h : List Int) (hl : h.length = 17) : ∀ i, i ≤ 17 → ∀ j, j < i → 0 ≤ (wRun h i).1.getD j 0 ∧ (wRun h i).1.getD j 0 < 256
 | 0, _, j, hj => by omega
 | i + 1, hi, j, hj => by
  rw [wRun]
  by_cases e : j = i
  ·subst e
   rw [zan (by rw [wRun_length]; omega)]
   omega
  ·rw [zah (by omega)]
   exact wRun_small h hl i (by omega) j (by omega)
theorem wRun_val (h : List Int) (hl : h.length = 17) : ∀ i, i ≤ 17 → gV 256 (wRun h i).1 + (wRun h i).2 * 256 ^ i = gV 256 h + 5
 | 0, _ => by simp [wRun]
 | i + 1, hi => by
  have ih := wRun_val h hl i (by omega)
  rw [wRun, gV_set _ _ _ _ (by rw [wRun_length]; omega), ← ih, Int.pow_succ]
  generalize (wRun h i).2 = u
  generalize (wRun h i).1.getD i 0 = z
  generalize gV 256 (wRun h i).1 = V
  generalize hB : (256 : Int) ^ i = B
  have e : (u + z) = 256 * ((u + z) / 256) + (u + z) % 256 := (Int.mul_ediv_add_emod _ _).symm
  generalize (u + z) / 256 = q at *
  generalize (u + z) % 256 = r at *
  have : u = 256 * q + r - z := by omega
  subst this
  grind
theorem wRun_u (h : List Int) (hc : ∀ i, 0 ≤ h.getD i 0 ∧ h.getD i 0 < 256) : ∀ i, 0 ≤ (wRun h i).2 ∧ (wRun h i).2 ≤ 5
 | 0 => by simp [wRun]
 | i + 1 => by
  have ih := wRun_u h hc i
  have := hc i
  rw [wRun, wRun_far h i i (Nat.le_refl _)]
  show 0 ≤ ((wRun h i).2 + h.getD i 0) / 256 ∧ ((wRun h i).2 + h.getD i 0) / 256 ≤ 5
  omega
theorem Can17.digit {h : List Int} (hc : Can17 h) (i : Nat) : 0 ≤ h.getD i 0 ∧ h.getD i 0 < 256 := by
 obtain ⟨hl, h1, h2⟩ := hc
 rcases Nat.lt_or_ge i 16 with hi | hi
 ·exact h1 i hi
 ·rcases Nat.lt_or_ge i 17 with hi2 | hi2
  ·have : i = 16 := by omega
   subst this
   omega
  ·rw [getD_out (by omega)]
   omega
theorem Can17.range {h : List Int} (hc : Can17 h) : 0 ≤ gV 256 h ∧ gV 256 h < two130 := by
 have hd := digits16 hc.1 hc.2.1
 have h17 := gV_17 hc.1
 have := hc.2.2
 unfold two130
 omega
def wOut (h : List Int) : List Int := if 4 ≤ (wRun h 17).1.getD 16 0 then (wRun h 17).1.set 16 ((wRun h 17).1.getD 16 0 - 4) else h
theorem wOut_val {h : List Int} (hc : Can17 h) : (wOut h).length = 17 ∧ (∀ i, i < 17 → 0 ≤ (wOut h).getD i 0 ∧ (wOut h).getD i 0 < 256) ∧ gV 256 (wOut h) = gV 256 h % (pQ : Int) := by
 have hl := hc.1
 have hr := hc.range
 have hlen : (wRun h 17).1.length = 17 := by rw [wRun_length, hl]
 have hs := wRun_small h hl 17 (Nat.le_refl _)
 have hv := wRun_val h hl 17 (Nat.le_refl _)
 have hu := wRun_u h hc.digit 17
 have hg := gV_range (B := 256) (by omega) (zs := (wRun h 17).1) (fun i hi => hs i (by omega))
 have hd := digits16 hlen (fun j hj => hs j (by omega))
 have h17 := gV_17 hlen
 have p17 : (256 : Int) ^ 17 = 87112285931760246646623899502532662132736 := by decide +kernel
 rw [p17] at hv
 have hs16 := hs 16 (by omega)
 unfold two130 at hr
 unfold wOut pQ
 by_cases h4 : 4 ≤ (wRun h 17).1.getD 16 0
 ·rw [if_pos h4]
  refine ⟨by simp [hlen], fun i hi => ?_, ?_⟩
  ·by_cases e : i = 16
   ·subst e
    rw [zan (by omega)]
    omega
   ·rw [zah (by omega)]
    exact hs i hi
  ·rw [gV_set _ _ _ _ (by omega), pow_16]
   generalize gV 256 (wRun h 17).1 = W at *
   generalize gV 256 h = V at *
   generalize (wRun h 17).2 = u at *
   generalize (wRun h 17).1.getD 16 0 = z at *
   generalize gV 256 ((wRun h 17).1.take 16) = D at *
   clear hs hg p17 hlen
   have u0 : u = 0 := by omega
   subst u0
   have z4 : z = 4 := by omega
   subst z4
   have ev : V % 1361129467683753853853498429727072845819 = V - 1361129467683753853853498429727072845819 := by
    rw [← Int.sub_emod_right, Int.emod_eq_of_lt (by omega) (by omega)]
   show W + (4 - 4 - 4) * 340282366920938463463374607431768211456 = V % 1361129467683753853853498429727072845819
   rw [ev]
   omega
 ·rw [if_neg h4]
  refine ⟨hl, fun i hi => hc.digit i, ?_⟩
  generalize gV 256 (wRun h 17).1 = W at *
  generalize gV 256 h = V at *
  generalize (wRun h 17).2 = u at *
  generalize (wRun h 17).1.getD 16 0 = z at *
  generalize gV 256 ((wRun h 17).1.take 16) = D at *
  clear hs hg p17 hlen
  omega
theorem gV_le {M : Int} (hM : 0 ≤ M) : ∀ {zs : List Int}, (∀ i, 0 ≤ zs.getD i 0 ∧ zs.getD i 0 ≤ M) → 255 * gV 256 zs + M ≤ M * 256 ^ zs.length
 | [], _ => by simp [gV]
 | z :: r, h => by
  have h0 := h 0
  simp only [List.getD_cons_zero] at h0
  have ih := gV_le hM (zs := r) (fun i => by have := h (i + 1); simpa using this)
  simp only [gV, List.length_cons, Int.pow_succ]
  generalize gV 256 r = V at *
  generalize hB : (256 : Int) ^ r.length = B at *
  have e : M * (B * 256) = 256 * (M * B) := by rw [← Int.mul_assoc, Int.mul_comm]
  rw [e]
  generalize M * B = X at *
  omega
theorem gV_nonneg : ∀ {zs : List Int}, (∀ i, 0 ≤ zs.getD i 0) → 0 ≤ gV 256 zs
 | [], _ => Int.le_refl _
 | z :: r, h => by
  have h0 := h 0
  simp only [List.getD_cons_zero] at h0
  have ih := gV_nonneg (zs := r) (fun i => by have := h (i + 1); simpa using this)
  simp only [gV]
  omega
theorem mul17 {h r : List Int} (hl : h.length = 17) (rl : r.length = 17) (hh : ∀ i, 0 ≤ h.getD i 0 ∧ h.getD i 0 ≤ 1024) (hr : ∀ i, 0 ≤ r.getD i 0 ∧ r.getD i 0 ≤ 255) :
  Can17 (qThree (tList h r 17)) ∧ gV 256 (qThree (tList h r 17)) % (pQ : Int) = gV 256 h * gV 256 r % (pQ : Int) := by
 have hle : ∀ i, 0 ≤ (tList h r 17).getD i 0 ∧ (tList h r 17).getD i 0 ≤ 1420492800 := fun i => by
  rw [tList_getD h r 17 (Nat.le_refl _)]
  split
  ·have := tRun_bound hh hr i 17
   omega
  ·omega
 have hlen := zeg h r 17
 have hb := gV_le (by omega) hle
 rw [hlen, show (256 : Int) ^ 17 = 87112285931760246646623899502532662132736 from by decide +kernel] at hb
 have hq := qThree_val (tList h r 17) hlen (fun i => (hle i).1) (by omega)
 exact ⟨hq.1, hq.2.trans (tList_val hl rl)⟩
def rA (key : List UInt8) : Nat → List Int
 | 0 => List.replicate 17 0
 | k + 1 => (rA key k).set k ((key.getD k 0).toNat : Int)
def rB (key : List UInt8) : Nat → List Int
 | 0 => rA key 16
 | k + 1 => (rB key k).set (3 + 4 * k) ((rB key k).getD (3 + 4 * k) 0 % 16)
def rC (key : List UInt8) : Nat → List Int
 | 0 => rB key 4
 | k + 1 => (rC key k).set (4 + 4 * k) ((rC key k).getD (4 + 4 * k) 0 / 4 * 4)
theorem rA_length (key : List UInt8) : ∀ k, (rA key k).length = 17
 | 0 => by simp [rA]
 | k + 1 => by rw [rA, List.length_set, rA_length key k]
theorem rB_length (key : List UInt8) : ∀ k, (rB key k).length = 17
 | 0 => rA_length key 16
 | k + 1 => by rw [rB, List.length_set, rB_length key k]
theorem zdw (key : List UInt8) : ∀ k, (rC key k).length = 17
 | 0 => rB_length key 4
 | k + 1 => by rw [rC, List.length_set, zdw key k]
theorem rA_digit (key : List UInt8) : ∀ k i, 0 ≤ (rA key k).getD i 0 ∧ (rA key k).getD i 0 ≤ 255
 | 0, i => by
  rcases Nat.lt_or_ge i 17 with hi | hi
  ·rw [rA, getD_eq (by simp; exact hi), List.getElem_replicate]
   omega
  ·rw [getD_out (by simp [rA]; exact hi)]
   omega
 | k + 1, i => by
  rw [rA]
  by_cases e : i = k
  ·subst e
   rcases Nat.lt_or_ge i 17 with hi | hi
   ·rw [zan (by rw [rA_length]; exact hi)]
    have := (key.getD i 0).toNat_lt
    omega
   ·rw [getD_out (by rw [List.length_set, rA_length]; exact hi)]
    omega
  ·rw [zah (by omega)]
   exact rA_digit key k i
theorem rB_digit (key : List UInt8) : ∀ k i, k ≤ 4 → 0 ≤ (rB key k).getD i 0 ∧ (rB key k).getD i 0 ≤ 255
 | 0, i, _ => rA_digit key 16 i
 | k + 1, i, hk => by
  rw [rB]
  have ih := rB_digit key k
  by_cases e : i = 3 + 4 * k
  ·subst e
   rw [zan (by rw [rB_length]; omega)]
   have := ih (3 + 4 * k) (by omega)
   omega
  ·rw [zah (by omega)]
   exact ih i (by omega)
theorem rC_digit (key : List UInt8) : ∀ k i, k ≤ 3 → 0 ≤ (rC key k).getD i 0 ∧ (rC key k).getD i 0 ≤ 255
 | 0, i, _ => rB_digit key 4 i (by omega)
 | k + 1, i, hk => by
  rw [rC]
  have ih := rC_digit key k
  by_cases e : i = 4 + 4 * k
  ·subst e
   rw [zan (by rw [zdw]; omega)]
   have := ih (4 + 4 * k) (by omega)
   omega
  ·rw [zah (by omega)]
   exact ih i (by omega)
theorem rA_getD (key : List UInt8) : ∀ k, k ≤ 17 → ∀ i, (rA key k).getD i 0 = if i < k then ((key.getD i 0).toNat : Int) else 0
 | 0, _, i => by
  rw [if_neg (by omega)]
  rcases Nat.lt_or_ge i 17 with hi | hi
  ·rw [rA, getD_eq (by simp; exact hi), List.getElem_replicate]
  ·rw [getD_out (by simp [rA]; exact hi)]
 | k + 1, hk, i => by
  rw [rA]
  by_cases e : i = k
  ·subst e
   rw [zan (by rw [rA_length]; omega), if_pos (by omega)]
  ·rw [zah (by omega), rA_getD key k (by omega) i]
   by_cases h : i < k
   ·rw [if_pos h, if_pos (by omega)]
   ·rw [if_neg h, if_neg (by omega)]
theorem rB_getD (key : List UInt8) : ∀ k, k ≤ 4 → ∀ i, (rB key k).getD i 0 = if i % 4 = 3 ∧ i < 3 + 4 * k then (rA key 16).getD i 0 % 16 else (rA key 16).getD i 0
 | 0, _, i => by rw [if_neg (by omega)]; rfl
 | k + 1, hk, i => by
  rw [rB]
  by_cases e : i = 3 + 4 * k
  ·subst e
   rw [zan (by rw [rB_length]; omega), rB_getD key k (by omega), if_neg (by omega), if_pos (by omega)]
  ·rw [zah (by omega), rB_getD key k (by omega) i]
   by_cases h : i % 4 = 3 ∧ i < 3 + 4 * k
   ·rw [if_pos h, if_pos (by omega)]
   ·rw [if_neg h, if_neg (by omega)]
theorem rC_getD (key : List UInt8) : ∀ k, k ≤ 3 → ∀ i, (rC key k).getD i 0 = if i % 4 = 0 ∧ 4 ≤ i ∧ i < 4 + 4 * k then (rB key 4).getD i 0 / 4 * 4 else (rB key 4).getD i 0
 | 0, _, i => by rw [if_neg (by omega)]; rfl
 | k + 1, hk, i => by
  rw [rC]
  by_cases e : i = 4 + 4 * k
  ·subst e
   rw [zan (by rw [zdw]; omega), rC_getD key k (by omega), if_neg (by omega), if_pos (by omega)]
  ·rw [zah (by omega), rC_getD key k (by omega) i]
   by_cases h : i % 4 = 0 ∧ 4 ≤ i ∧ i < 4 + 4 * k
   ·rw [if_pos h, if_pos (by omega)]
   ·rw [if_neg h, if_neg (by omega)]
theorem zdx (key : List UInt8) : (pDigits key).length = 16 := by simp [pDigits]
theorem pDigits_getD (key : List UInt8) {i : Nat} (h : i < 16) : (pDigits key).getD i 0 = (pDigit key i : Int) := by
 simp [pDigits, List.getD, h]
theorem rC_full (key : List UInt8) : rC key 3 = pDigits key ++ [0] := by
 apply ext_getD (by rw [zdw, List.length_append, zdx]; rfl)
 intro i hi
 rw [zdw] at hi
 rw [rC_getD key 3 (by omega), rB_getD key 4 (by omega), rA_getD key 16 (by omega)]
 rcases Nat.lt_or_ge i 16 with h | h
 ·have e : (pDigits key ++ [0]).getD i 0 = (pDigit key i : Int) := by
   rw [← pDigits_getD key h]
   simp [List.getD, List.getElem?_append_left (show i < (pDigits key).length by rw [zdx]; exact h)]
  rw [e, if_pos h]
  unfold pDigit
  generalize (key.getD i 0).toNat = x
  by_cases h3 : i % 4 = 3
  ·rw [if_neg (by omega), if_pos (by omega), if_pos (by omega)]
   omega
  ·by_cases h0 : i % 4 = 0 ∧ 4 ≤ i
   ·rw [if_pos (by omega), if_neg (by omega), if_neg (by omega), if_pos (by omega)]
    omega
   ·rw [if_neg (by omega), if_neg (by omega), if_neg (by omega), if_neg (by omega)]
 ·have h16 : i = 16 := by omega
  subst h16
  rw [if_neg (by omega), if_neg (by omega), if_neg (by omega)]
  simp [List.getD, zdx]
theorem rC_val (key : List UInt8) : gV 256 (rC key 3) = pR key := by
 rw [rC_full, zel]
 simp [gV, pR]
def cA (b : List UInt8) (n : Nat) : Nat → List Int
 | 0 => List.replicate 17 0
 | i + 1 => (cA b n i).set i ((b.getD (16 * n + i) 0).toNat : Int)
theorem cA_length (b : List UInt8) (n : Nat) : ∀ k, (cA b n k).length = 17
 | 0 => by simp [cA]
 | k + 1 => by rw [cA, List.length_set, cA_length b n k]
theorem cA_getD (b : List UInt8) (n : Nat) : ∀ k, k ≤ 17 → ∀ i, (cA b n k).getD i 0 = if i < k then ((b.getD (16 * n + i) 0).toNat : Int) else 0
 | 0, _, i => by
  rw [if_neg (by omega)]
  rcases Nat.lt_or_ge i 17 with hi | hi
  ·rw [cA, getD_eq (by simp; exact hi), List.getElem_replicate]
  ·rw [getD_out (by simp [cA]; exact hi)]
 | k + 1, hk, i => by
  rw [cA]
  by_cases e : i = k
  ·subst e
   rw [zan (by rw [cA_length]; omega), if_pos (by omega)]
  ·rw [zah (by omega), cA_getD b n k (by omega) i]
   by_cases h : i < k
   ·rw [if_pos h, if_pos (by omega)]
   ·rw [if_neg h, if_neg (by omega)]
theorem gV_cA (b : List UInt8) (n : Nat) : ∀ k, k ≤ 16 → 16 * n + k ≤ b.length → gV 256 (cA b n k) = ((leN ((b.drop (16 * n)).take k) : Nat) : Int)
 | 0, _, _ => by
  rw [cA, gV_zeros]
  simp [leN]
 | k + 1, hk, hb => by
  rw [cA, gV_set _ _ _ _ (by rw [cA_length]; omega), gV_cA b n k (by omega) (by omega), cA_getD b n k (by omega) k, if_neg (by omega)]
  have e : (b.drop (16 * n)).take (k + 1) = (b.drop (16 * n)).take k ++ [b.getD (16 * n + k) 0] := by
   rw [List.take_succ_eq_append_getElem (by rw [List.length_drop]; omega)]
   congr 2
   rw [List.getElem_drop]
   simp [List.getD, show 16 * n + k < b.length by omega]
  rw [e, ← gV_bytes, ← gV_bytes, List.map_append, zel]
  have e2 : (((b.drop (16 * n)).take k).map fun b => (b.toNat : Int)).length = k := by
   rw [List.length_map, List.length_take, List.length_drop]
   omega
  rw [e2]
  simp only [List.map_cons, List.map_nil, gV]
  generalize (256 : Int) ^ k = B
  generalize ((b.getD (16 * n + k) 0).toNat : Int) = z
  rw [Int.sub_zero, Int.mul_zero, Int.add_zero, Int.mul_comm]
theorem gV_blk (b : List UInt8) (n : Nat) (hb : 16 * n < b.length) : gV 256 ((cA b n (min 16 (b.length - 16 * n))).set (min 16 (b.length - 16 * n)) 1) = pBlk b n := by
 have h16 : min 16 (b.length - 16 * n) ≤ 16 := by omega
 rw [gV_set _ _ _ _ (by rw [cA_length]; omega), gV_cA b n _ h16 (by omega), cA_getD b n _ (by omega) _, if_neg (by omega)]
 unfold pBlk
 have e : (b.drop (16 * n)).take (min 16 (b.length - 16 * n)) = (b.drop (16 * n)).take 16 := by
  rcases Nat.lt_or_ge (b.length - 16 * n) 16 with h | h
  ·rw [Nat.min_eq_right (by omega), List.take_of_length_le (by rw [List.length_drop]; omega), List.take_of_length_le (by rw [List.length_drop]; omega)]
  ·rw [Nat.min_eq_left h]
 rw [e]
 generalize (256 : Int) ^ (min 16 (b.length - 16 * n)) = B
 omega
theorem blk_digit (b : List UInt8) (n m : Nat) (hm : m ≤ 16) (i : Nat) : 0 ≤ ((cA b n m).set m 1).getD i 0 ∧ ((cA b n m).set m 1).getD i 0 ≤ 255 := by
 by_cases e : i = m
 ·subst e
  rw [zan (by rw [cA_length]; omega)]
  omega
 ·rw [zah (by omega), cA_getD b n m (by omega)]
  split
  ·have := (b.getD (16 * n + i) 0).toNat_lt
   omega
  ·omega
def sA (h c : List Int) : Nat → List Int
 | 0 => h
 | i + 1 => (sA h c i).set i ((sA h c i).getD i 0 + c.getD i 0)
theorem sA_length (h c : List Int) : ∀ k, (sA h c k).length = h.length
 | 0 => rfl
 | k + 1 => by rw [sA, List.length_set, sA_length h c k]
theorem sA_far (h c : List Int) : ∀ k j, k ≤ j → (sA h c k).getD j 0 = h.getD j 0
 | 0, _, _ => rfl
 | k + 1, j, hj => by rw [sA, zah (by omega), sA_far h c k j (by omega)]
theorem sA_val (h c : List Int) (hl : h.length = c.length) : ∀ k, k ≤ c.length → gV 256 (sA h c k) = gV 256 h + gV 256 (c.take k)
 | 0, _ => by simp [sA, gV]
 | k + 1, hk => by
  rw [sA, gV_set _ _ _ _ (by rw [sA_length]; omega), sA_val h c hl k (by omega), gV_take_succ 256 c k (by omega)]
  have : (sA h c k).getD k 0 + c.getD k 0 - (sA h c k).getD k 0 = c.getD k 0 := by omega
  rw [this]
  omega
theorem sA_full (h c : List Int) (hl : h.length = 17) (cl : c.length = 17) : gV 256 (sA h c 17) = gV 256 h + gV 256 c := by
 rw [sA_val h c (by omega) 17 (by omega), List.take_of_length_le (by omega)]
theorem sA_digit (h c : List Int) (hl : h.length = 17) (hh : ∀ i, 0 ≤ h.getD i 0 ∧ h.getD i 0 ≤ 255) (hc : ∀ i, 0 ≤ c.getD i 0 ∧ c.getD i 0 ≤ 255) : ∀ k i, 0 ≤ (sA h c k).getD i 0 ∧ (sA h c k).getD i 0 ≤ 1024
 | 0, i => by
  have := hh i
  exact ⟨this.1, Int.le_trans this.2 (by decide)⟩
 | k + 1, i => by
  rw [sA]
  by_cases e : i = k
  ·subst e
   rcases Nat.lt_or_ge i 17 with hi | hi
   ·rw [zan (by rw [sA_length]; omega), sA_far h c i i (Nat.le_refl _)]
    have := hh i
    have := hc i
    omega
   ·rw [getD_out (by rw [List.length_set, sA_length]; omega)]
    omega
  ·rw [zah (by omega)]
   exact sA_digit h c hl hh hc k i
def uT (h : List Int) (s : List UInt8) : Nat → Int
 | 0 => 0
 | i + 1 => (uT h s i + h.getD i 0 + ((s.getD i 0).toNat : Int)) / 256
def tD (h : List Int) (s : List UInt8) (i : Nat) : Int := (uT h s i + h.getD i 0 + ((s.getD i 0).toNat : Int)) % 256
theorem uT_range {h : List Int} (hh : ∀ i, 0 ≤ h.getD i 0 ∧ h.getD i 0 ≤ 255) (s : List UInt8) : ∀ i, 0 ≤ uT h s i ∧ uT h s i ≤ 2
 | 0 => by simp [uT]
 | i + 1 => by
  have ih := uT_range hh s i
  have h1 := hh i
  have h2 := (s.getD i 0).toNat_lt
  simp only [uT]
  omega
def tL (h : List Int) (s : List UInt8) (n : Nat) : List Int := (List.range n).map (tD h s)
theorem tL_length (h : List Int) (s : List UInt8) (n : Nat) : (tL h s n).length = n := by simp [tL]
theorem tL_succ (h : List Int) (s : List UInt8) (n : Nat) : tL h s (n + 1) = tL h s n ++ [tD h s n] := by
 simp [tL, List.range_succ]
theorem uT_val (h : List Int) (s : List UInt8) (hl : h.length = 17) (sl : s.length = 16) : ∀ i, i ≤ 16 → gV 256 (tL h s i) + uT h s i * 256 ^ i = gV 256 (h.take i) + ((leN (s.take i) : Nat) : Int)
 | 0, _ => by simp [tL, uT, gV, leN]
 | i + 1, hi => by
  have ih := uT_val h s hl sl i (by omega)
  have e : s.take (i + 1) = s.take i ++ [s.getD i 0] := by
   rw [List.take_succ_eq_append_getElem (by omega)]
   simp [List.getD, show i < s.length by omega]
  rw [tL_succ, zel, tL_length, gV_take_succ 256 h i (by omega), e, ← gV_bytes, List.map_append, zel]
  have e2 : ((s.take i).map fun b => (b.toNat : Int)).length = i := by rw [List.length_map, List.length_take]; omega
  rw [e2, gV_bytes, Int.pow_succ]
  simp only [List.map_cons, List.map_nil, gV, uT]
  unfold tD
  generalize gV 256 (tL h s i) = T at *
  generalize gV 256 (h.take i) = V at *
  generalize ((leN (s.take i) : Nat) : Int) = L at *
  generalize (256 : Int) ^ i = B at *
  generalize uT h s i = u at *
  generalize h.getD i 0 = z at *
  generalize ((s.getD i 0).toNat : Int) = y at *
  have e3 : (u + z + y) = 256 * ((u + z + y) / 256) + (u + z + y) % 256 := (Int.mul_ediv_add_emod _ _).symm
  generalize (u + z + y) / 256 = q at *
  generalize (u + z + y) % 256 = r at *
  have : u = 256 * q + r - z - y := by omega
  subst this
  clear e3 e e2
  grind
theorem tag_digits {h : List Int} {key b : List UInt8} (hk : key.length = 32) (hl : h.length = 17) (hd : ∀ i, i < 17 → 0 ≤ h.getD i 0 ∧ h.getD i 0 < 256) (hv : gV 256 h = pNum key b) :
  tL h ((key.drop 16).take 16) 16 = (polyTag key b).map fun b => (b.toNat : Int) := by
 have sl : ((key.drop 16).take 16).length = 16 := by rw [List.length_take, List.length_drop]; omega
 have h1 := uT_val h _ hl sl 16 (Nat.le_refl _)
 have h17 := gV_17 hl
 have hS : (((leN (((key.drop 16).take 16).take 16) : Nat) : Int)) = (pS key : Int) := by
  rw [List.take_of_length_le (l := (key.drop 16).take 16) (by omega)]
  rfl
 rw [hS] at h1
 clear hS
 generalize (key.drop 16).take 16 = s at *
 have hp := (pAcc_range (pR key) b ((b.length + 15) / 16)).1
 have hnum : 0 ≤ pNum key b := hp
 have td : ∀ i, i < 16 → 0 ≤ (tL h s 16).getD i 0 ∧ (tL h s 16).getD i 0 < 256 := fun i hi => by
  have e : (tL h s 16).getD i 0 = tD h s i := by
   simp only [tL, List.getD_eq_getElem?_getD, List.getElem?_map, List.getElem?_range hi]
   rfl
  rw [e]
  unfold tD
  omega
 have hr := gV_range (B := 256) (by omega) (zs := tL h s 16) (fun i hi => td i (by rw [tL_length] at hi; exact hi))
 rw [tL_length, pow_16] at hr
 rw [pow_16] at h1
 have hX : gV 256 (tL h s 16) = (((pNum key b + pS key).toNat % 256 ^ 16 : Nat) : Int) := by
  rw [Int.natCast_emod, Int.toNat_of_nonneg (by omega), show ((256 ^ 16 : Nat) : Int) = 340282366920938463463374607431768211456 from by decide +kernel, ← hv, h17]
  generalize gV 256 (tL h s 16) = T at *
  generalize gV 256 (h.take 16) = V at *
  generalize h.getD 16 0 = z at *
  generalize uT h s 16 = u at *
  omega
 have g := gV_dig 16 (pNum key b + pS key).toNat
 show _ = dig 16 (pNum key b + pS key).toNat
 refine gV_inj (B := 256) (by omega) (by rw [tL_length, dig_length]) (fun i hi => td i (by rw [tL_length] at hi; exact hi)) (fun i hi => dig_digits 16 _ i (by rw [dig_length] at hi; exact hi)) ?_
 rw [hX, g]
def Lim (M : Int) (l : List Int) : Prop := ∃ a b c d e, l = [a, b, c, d, e] ∧ (0 ≤ a ∧ a ≤ M) ∧ (0 ≤ b ∧ b ≤ M) ∧ (0 ≤ c ∧ c ≤ M) ∧ (0 ≤ d ∧ d ≤ M) ∧ (0 ≤ e ∧ e ≤ M)
theorem Lim.len {M : Int} {l : List Int} (h : Lim M l) : l.length = 5 := by
 obtain ⟨a, b, c, d, e, rfl, _⟩ := h
 rfl
theorem Lim.getD {M : Int} (hM : 0 ≤ M) {l : List Int} (h : Lim M l) : ∀ i, 0 ≤ l.getD i 0 ∧ l.getD i 0 ≤ M := by
 obtain ⟨a, b, c, d, e, rfl, h1, h2, h3, h4, h5⟩ := h
 intro i
 match i with
 | 0 => exact h1
 | 1 => exact h2
 | 2 => exact h3
 | 3 => exact h4
 | 4 => exact h5
 | n + 5 => simp; omega
theorem Lim.of {M : Int} {l : List Int} (hl : l.length = 5) (h : ∀ i, i < 5 → 0 ≤ l.getD i 0 ∧ l.getD i 0 ≤ M) : Lim M l := by
 match l, hl with
 | [a, b, c, d, e], _ => exact ⟨a, b, c, d, e, rfl, h 0 (by omega), h 1 (by omega), h 2 (by omega), h 3 (by omega), h 4 (by omega)⟩
theorem Lim.up {M N : Int} {l : List Int} (h : Lim M l) (hMN : M ≤ N) : Lim N l := by
 obtain ⟨a, b, c, d, e, rfl, h1, h2, h3, h4, h5⟩ := h
 exact ⟨a, b, c, d, e, rfl, by omega, by omega, by omega, by omega, by omega⟩
theorem gV5 (a b c d e : Int) : gV 67108864 [a, b, c, d, e] = a + 67108864 * b + 4503599627370496 * c + 302231454903657293676544 * d + 20282409603651670423947251286016 * e := by
 simp only [gV]
 omega
theorem sA_getD (h c : List Int) : ∀ k, k ≤ h.length → ∀ i, (sA h c k).getD i 0 = if i < k then h.getD i 0 + c.getD i 0 else h.getD i 0
 | 0, _, i => by rw [if_neg (by omega)]; rfl
 | k + 1, hk, i => by
  rw [sA]
  by_cases e : i = k
  ·subst e
   rw [zan (by rw [sA_length]; omega), if_pos (by omega), sA_getD h c i (by omega) i, if_neg (by omega)]
  ·rw [zah (by omega), sA_getD h c k (by omega) i]
   by_cases h1 : i < k
   ·rw [if_pos h1, if_pos (by omega)]
   ·rw [if_neg h1, if_neg (by omega)]
def addL (x y : List Int) : List Int := sA x y 5
theorem addL_five (a b c d e f g h i j : Int) : addL [a, b, c, d, e] [f, g, h, i, j] = [a + f, b + g, c + h, d + i, e + j] := by simp [addL, sA]
theorem addL_val {M N : Int} {x y : List Int} (hx : Lim M x) (hy : Lim N y) : Lim (M + N) (addL x y) ∧ gV 67108864 (addL x y) = gV 67108864 x + gV 67108864 y := by
 obtain ⟨a, b, c, d, e, rfl, h1, h2, h3, h4, h5⟩ := hx
 obtain ⟨f, g, h, i, j, rfl, k1, k2, k3, k4, k5⟩ := hy
 rw [addL_five]
 refine ⟨⟨_, _, _, _, _, rfl, by omega, by omega, by omega, by omega, by omega⟩, ?_⟩
 rw [gV5, gV5, gV5]
 omega
def zRun (h : List Int) : Nat → List Int × Int
 | 0 => (h, 0)
 | i + 1 => ((zRun h i).1.set i (((zRun h i).2 + (zRun h i).1.getD i 0) % 67108864), ((zRun h i).2 + (zRun h i).1.getD i 0) / 67108864)
theorem zeb (h : List Int) : ∀ i, (zRun h i).1.length = h.length
 | 0 => rfl
 | i + 1 => by simp [zRun, zeb h i]
theorem zRun_far (h : List Int) : ∀ i j, i ≤ j → (zRun h i).1.getD j 0 = h.getD j 0
 | 0, _, _ => rfl
 | i + 1, j, hj => by rw [zRun, zah (by omega), zRun_far h i j (by omega)]
theorem zRun_small (h : List Int) (hl : h.length = 5) : ∀ i, i ≤ 5 → ∀ j, j < i → 0 ≤ (zRun h i).1.getD j 0 ∧ (zRun h i).1.getD j 0 < 67108864
 | 0, _, j, hj => by omega
 | i + 1, hi, j, hj => by
  rw [zRun]
  by_cases e : j = i
  ·subst e
   rw [zan (by rw [zeb]; omega)]
   omega
  ·rw [zah (by omega)]
   exact zRun_small h hl i (by omega) j (by omega)
theorem zRun_val (h : List Int) (hl : h.length = 5) : ∀ i, i ≤ 5 → gV 67108864 (zRun h i).1 + (zRun h i).2 * 67108864 ^ i = gV 67108864 h
 | 0, _ => by simp [zRun]
 | i + 1, hi => by
  have ih := zRun_val h hl i (by omega)
  rw [zRun, gV_set _ _ _ _ (by rw [zeb]; omega), ← ih, Int.pow_succ]
  generalize (zRun h i).2 = u
  generalize (zRun h i).1.getD i 0 = z
  generalize gV 67108864 (zRun h i).1 = V
  generalize hB : (67108864 : Int) ^ i = B
  have e : (u + z) = 67108864 * ((u + z) / 67108864) + (u + z) % 67108864 := (Int.mul_ediv_add_emod _ _).symm
  generalize (u + z) / 67108864 = q at *
  generalize (u + z) % 67108864 = r at *
  have : u = 67108864 * q + r - z := by omega
  subst this
  clear e ih hB hi hl
  grind
theorem zRun_carry {M : Int} (hM : 0 ≤ M) (h : List Int) (hn : ∀ i, 0 ≤ h.getD i 0 ∧ h.getD i 0 ≤ M) : ∀ i, 0 ≤ (zRun h i).2 ∧ (zRun h i).2 ≤ M
 | 0 => by simp only [zRun]; omega
 | i + 1 => by
  have ih := zRun_carry hM h hn i
  have := hn i
  rw [zRun, zRun_far h i i (Nat.le_refl _)]
  show 0 ≤ ((zRun h i).2 + h.getD i 0) / 67108864 ∧ ((zRun h i).2 + h.getD i 0) / 67108864 ≤ M
  omega
def setL (h : List Int) : List Int := (zRun h 5).1
theorem pow26 : (67108864 : Int) ^ 5 = two130 := by decide +kernel
theorem lim_range {l : List Int} (h : Lim 67108863 l) : 0 ≤ gV 67108864 l ∧ gV 67108864 l < two130 := by
 have := gV_range (B := 67108864) (by omega) (zs := l) (fun i hi => by have := h.getD (by omega) i; omega)
 rw [h.len, pow26] at this
 exact this
theorem setL_val {h : List Int} (hl : h.length = 5) : Lim 67108863 (setL h) ∧ gV 67108864 (setL h) = gV 67108864 h % two130 := by
 have hL : Lim 67108863 (setL h) := Lim.of (by unfold setL; rw [zeb, hl]) (fun i hi => by
  have := zRun_small h hl 5 (Nat.le_refl _) i hi
  unfold setL
  omega)
 refine ⟨hL, ?_⟩
 have h1 := zRun_val h hl 5 (Nat.le_refl _)
 have h2 := lim_range hL
 rw [pow26] at h1
 show gV 67108864 (setL h) = _
 have h3 : gV 67108864 (setL h) + (zRun h 5).2 * two130 = gV 67108864 h := h1
 rw [← h3]
 generalize gV 67108864 (setL h) = V at *
 generalize (zRun h 5).2 = c at *
 unfold two130 at *
 omega
def rRun (h : List Int) : Nat → Int
 | 0 => 5
 | i + 1 => (rRun h i + h.getD i 0) / 67108864
theorem rRun_val {h : List Int} (hl : h.length = 5) (hn : ∀ i, 0 ≤ h.getD i 0) : ∀ i, i ≤ 5 → rRun h i = (gV 67108864 (h.take i) + 5) / 67108864 ^ i
 | 0, _ => by simp [rRun, gV]
 | i + 1, hi => by
  rw [rRun, rRun_val hl hn i (by omega), gV_take_succ _ _ _ (by omega), Int.pow_succ]
  have hB : (0 : Int) < 67108864 ^ i := Int.pow_pos (by omega)
  generalize (67108864 : Int) ^ i = B at *
  rw [show (gV 67108864 (h.take i) + h.getD i 0 * B + 5) / (B * 67108864) = (gV 67108864 (h.take i) + h.getD i 0 * B + 5) / B / 67108864 from by rw [Int.ediv_ediv, if_neg (fun h => absurd h.1 (by omega)), Int.sub_zero], show gV 67108864 (h.take i) + h.getD i 0 * B + 5 = (gV 67108864 (h.take i) + 5) + h.getD i 0 * B by omega, Int.add_mul_ediv_right _ _ (by omega)]
theorem rRun_range {M : Int} {h : List Int} (hM : 5 ≤ M) (hn : ∀ i, 0 ≤ h.getD i 0 ∧ h.getD i 0 ≤ M) : ∀ i, 0 ≤ rRun h i ∧ rRun h i ≤ M
 | 0 => by simp only [rRun]; omega
 | i + 1 => by
  have ih := rRun_range hM hn i
  have := hn i
  simp only [rRun]
  omega
def redL (h : List Int) : List Int := setL (h.set 0 (h.getD 0 0 + 5 * rRun h 5))
theorem redL_val {h : List Int} (hl : h.length = 5) (hn : ∀ i, 0 ≤ h.getD i 0) (hv : gV 67108864 h < 2 * (pQ : Int)) : Lim 67108863 (redL h) ∧ gV 67108864 (redL h) = gV 67108864 h % (pQ : Int) := by
 have h1 := setL_val (h := h.set 0 (h.getD 0 0 + 5 * rRun h 5)) (by simp [hl])
 refine ⟨h1.1, h1.2.trans ?_⟩
 rw [gV_set _ _ _ _ (by omega), rRun_val hl hn 5 (Nat.le_refl _), List.take_of_length_le (by omega), pow26]
 have h0 : 0 ≤ gV 67108864 h := by
  have : ∀ (zs : List Int), (∀ i, 0 ≤ zs.getD i 0) → 0 ≤ gV 67108864 zs := by
   intro zs
   induction zs with
   | nil => intro _; exact Int.le_refl _
   | cons z r ih =>
    intro h
    have h0 : 0 ≤ z := h 0
    have h1 := ih (fun i => by have := h (i + 1); simpa using this)
    simp only [gV]
    omega
  exact this h hn
 generalize gV 67108864 h = V at *
 generalize h.getD 0 0 = z
 rw [Int.pow_zero, Int.mul_one]
 clear h1 hn
 unfold pQ at *
 unfold two130
 rcases Int.lt_or_le V 1361129467683753853853498429727072845819 with h | h
 ·have q : (V + 5) / 1361129467683753853853498429727072845824 = 0 := by omega
  rw [q]
  omega
 ·have q : (V + 5) / 1361129467683753853853498429727072845824 = 1 := by omega
  rw [q]
  omega
def carL : List Int → List Int
 | [a, b, c, d, e] =>
  let b1 := b + a / 67108864
  let c1 := c + b1 / 67108864
  let d1 := d + c1 / 67108864
  let e1 := e + d1 / 67108864
  let l := a % 67108864 + 5 * (e1 / 67108864)
  [l % 67108864, b1 % 67108864 + l / 67108864, c1 % 67108864, d1 % 67108864, e1 % 67108864]
 | _ => []
def Near (l : List Int) : Prop := ∃ a b c d e, l = [a, b, c, d, e] ∧ (0 ≤ a ∧ a ≤ 67108863) ∧ (0 ≤ b ∧ b ≤ 67108991) ∧ (0 ≤ c ∧ c ≤ 67108863) ∧ (0 ≤ d ∧ d ≤ 67108863) ∧ (0 ≤ e ∧ e ≤ 67108863)
theorem Near.lim {l : List Int} (h : Near l) : Lim 67108991 l := by
 obtain ⟨a, b, c, d, e, rfl, h1, h2, h3, h4, h5⟩ := h
 exact ⟨a, b, c, d, e, rfl, by omega, by omega, by omega, by omega, by omega⟩
theorem Near.zero : Near (List.replicate 5 0) := ⟨0, 0, 0, 0, 0, rfl, by omega, by omega, by omega, by omega, by omega⟩
theorem Near.below {l : List Int} (h : Near l) : gV 67108864 l < 2 * (pQ : Int) := by
 obtain ⟨a, b, c, d, e, rfl, h1, h2, h3, h4, h5⟩ := h
 rw [gV5]
 unfold pQ
 omega
theorem carL_val {a b c d e : Int} (ha : 0 ≤ a ∧ a ≤ 378302368699121664) (hb : 0 ≤ b ∧ b ≤ 378302368699121664) (hc : 0 ≤ c ∧ c ≤ 378302368699121664) (hd : 0 ≤ d ∧ d ≤ 378302368699121664) (he : 0 ≤ e ∧ e ≤ 90071992547409920) :
  Near (carL [a, b, c, d, e]) ∧ gV 67108864 (carL [a, b, c, d, e]) % (pQ : Int) = gV 67108864 [a, b, c, d, e] % (pQ : Int) := by
 unfold carL
 simp only
 obtain ⟨b1, hb1⟩ : ∃ x, x = b + a / 67108864 := ⟨_, rfl⟩
 obtain ⟨c1, hc1⟩ : ∃ x, x = c + b1 / 67108864 := ⟨_, rfl⟩
 obtain ⟨d1, hd1⟩ : ∃ x, x = d + c1 / 67108864 := ⟨_, rfl⟩
 obtain ⟨e1, he1⟩ : ∃ x, x = e + d1 / 67108864 := ⟨_, rfl⟩
 obtain ⟨l, hl⟩ : ∃ x, x = a % 67108864 + 5 * (e1 / 67108864) := ⟨_, rfl⟩
 rw [← hb1, ← hc1, ← hd1, ← he1, ← hl]
 have b2 : 0 ≤ b1 ∧ b1 ≤ 378302374400000000 := by omega
 have c2 : 0 ≤ c1 ∧ c1 ≤ 378302374400000000 := by omega
 have d2 : 0 ≤ d1 ∧ d1 ≤ 378302374400000000 := by omega
 have e2 : 0 ≤ e1 ∧ e1 ≤ 90071998300000000 := by omega
 have l2 : 0 ≤ l ∧ l ≤ 6777996000 := by omega
 refine ⟨⟨_, _, _, _, _, rfl, by omega, by omega, by omega, by omega, by omega⟩, ?_⟩
 rw [gV5, gV5]
 have key : a + 67108864 * b + 4503599627370496 * c + 302231454903657293676544 * d + 20282409603651670423947251286016 * e =
   l % 67108864 + 67108864 * (b1 % 67108864 + l / 67108864) + 4503599627370496 * (c1 % 67108864) + 302231454903657293676544 * (d1 % 67108864) + 20282409603651670423947251286016 * (e1 % 67108864) + (pQ : Int) * (e1 / 67108864) := by
  unfold pQ
  omega
 rw [key, Int.add_mul_emod_self_left]
def timS (x y : List Int) : List Int :=
 match x, y with
 | [a, b, c, d, e], [f, g, h, i, j] => [a * f + b * (5 * j) + c * (5 * i) + d * (5 * h) + e * (5 * g), a * g + b * f + c * (5 * j) + d * (5 * i) + e * (5 * h), a * h + b * g + c * f + d * (5 * j) + e * (5 * i), a * i + b * h + c * g + d * f + e * (5 * j), a * j + b * i + c * h + d * g + e * f]
 | _, _ => []
def timL (x y : List Int) : List Int := carL (timS x y)
theorem mulB {x y X Y : Int} (hx : 0 ≤ x ∧ x ≤ X) (hy : 0 ≤ y ∧ y ≤ Y) : 0 ≤ x * y ∧ x * y ≤ X * Y := ⟨Int.mul_nonneg hx.1 hy.1, Int.mul_le_mul hx.2 hy.2 hy.1 (by omega)⟩
theorem tim_id (a b c d e f g h i j : Int) : gV 67108864 [a, b, c, d, e] * gV 67108864 [f, g, h, i, j] = gV 67108864 (timS [a, b, c, d, e] [f, g, h, i, j]) + (pQ : Int) * ((b * j + c * i + d * h + e * g) + 67108864 * (c * j + d * i + e * h) + 4503599627370496 * (d * j + e * i) + 302231454903657293676544 * (e * j)) := by
 unfold timS
 simp only [gV5]
 unfold pQ
 grind
theorem timL_val {x y : List Int} (hx : Lim 268435455 x) (hy : Lim 67108863 y) : Near (timL x y) ∧ gV 67108864 (timL x y) % (pQ : Int) = gV 67108864 x * gV 67108864 y % (pQ : Int) := by
 obtain ⟨a, b, c, d, e, rfl, h1, h2, h3, h4, h5⟩ := hx
 obtain ⟨f, g, h, i, j, rfl, k1, k2, k3, k4, k5⟩ := hy
 have ef : ∀ {x y : Int}, 0 ≤ x ∧ x ≤ 268435455 → 0 ≤ y ∧ y ≤ 67108863 → 0 ≤ x * y ∧ x * y ≤ 18014398509481984 ∧ x * (5 * y) = 5 * (x * y) := fun {x y} hx hy => by
  have := mulB hx hy
  refine ⟨this.1, by omega, ?_⟩
  rw [← Int.mul_assoc, Int.mul_comm x 5, Int.mul_assoc]
 have key := carL_val (a := a * f + b * (5 * j) + c * (5 * i) + d * (5 * h) + e * (5 * g)) (b := a * g + b * f + c * (5 * j) + d * (5 * i) + e * (5 * h)) (c := a * h + b * g + c * f + d * (5 * j) + e * (5 * i)) (d := a * i + b * h + c * g + d * f + e * (5 * j)) (e := a * j + b * i + c * h + d * g + e * f)
  (by have := ef h1 k1; have := ef h2 k5; have := ef h3 k4; have := ef h4 k3; have := ef h5 k2; omega)
  (by have := ef h1 k2; have := ef h2 k1; have := ef h3 k5; have := ef h4 k4; have := ef h5 k3; omega)
  (by have := ef h1 k3; have := ef h2 k2; have := ef h3 k1; have := ef h4 k5; have := ef h5 k4; omega)
  (by have := ef h1 k4; have := ef h2 k3; have := ef h3 k2; have := ef h4 k1; have := ef h5 k5; omega)
  (by have := ef h1 k5; have := ef h2 k4; have := ef h3 k3; have := ef h4 k2; have := ef h5 k1; omega)
 refine ⟨key.1, key.2.trans ?_⟩
 rw [tim_id, Int.add_mul_emod_self_left]
 rfl
def D17 (zs : List Int) : Prop := zs.length = 17 ∧ ∀ i, 0 ≤ zs.getD i 0 ∧ zs.getD i 0 ≤ 255
def w4 (zs : List Int) (o : Nat) : Int := zs.getD o 0 + 256 * zs.getD (o + 1) 0 + 65536 * zs.getD (o + 2) 0 + 16777216 * zs.getD (o + 3) 0
theorem w4_val {zs : List Int} (h : D17 zs) (o : Nat) (ho : o + 4 ≤ 17) : w4 zs o = gV 256 zs / 256 ^ o % 4294967296 := by
 obtain ⟨hl, hd⟩ := h
 rw [gV_div (by omega) (by omega) (fun i hi => by have := hd i; omega)]
 have g : ∀ k, (zs.drop o).getD k 0 = zs.getD (o + k) 0 := fun k => getD_drop
 have hl2 : (zs.drop o).length = 17 - o := by rw [List.length_drop, hl]
 have h0 := hd o
 have h1 := hd (o + 1)
 have h2 := hd (o + 2)
 have h3 := hd (o + 3)
 unfold w4
 have g0 := g 0
 have g1 := g 1
 have g2 := g 2
 have g3 := g 3
 generalize zs.drop o = ys at *
 match ys, hl2 with
 | y0 :: y1 :: y2 :: y3 :: r, _ =>
  simp only [List.getD_cons_zero, List.getD_cons_succ, Nat.add_zero] at g0 g1 g2 g3
  simp only [gV]
  generalize gV 256 r = R
  omega
 | [], h => simp at h; omega
 | [_], h => simp at h; omega
 | [_, _], h => simp at h; omega
 | [_, _, _], h => simp at h; omega
def lO (zs : List Int) : Nat → List Int
 | 0 => List.replicate 5 0
 | k + 1 => (lO zs k).set k (w4 zs (26 * k / 8) / 2 ^ (26 * k % 8) % 67108864)
theorem lO_length (zs : List Int) : ∀ k, (lO zs k).length = 5
 | 0 => by simp [lO]
 | k + 1 => by rw [lO, List.length_set, lO_length zs k]
theorem lO_five (zs : List Int) : lO zs 5 = [w4 zs 0 / 1 % 67108864, w4 zs 3 / 4 % 67108864, w4 zs 6 / 16 % 67108864, w4 zs 9 / 64 % 67108864, w4 zs 13 / 1 % 67108864] := by
 simp only [lO, List.replicate, List.set]
 rfl
def limL (zs : List Int) : List Int := lO zs 5
theorem limL_val {zs : List Int} (h : D17 zs) : Lim 67108863 (limL zs) ∧ gV 67108864 (limL zs) = gV 256 zs % two130 := by
 have e0 := w4_val h 0 (by omega)
 have e1 := w4_val h 3 (by omega)
 have e2 := w4_val h 6 (by omega)
 have e3 := w4_val h 9 (by omega)
 have e4 := w4_val h 13 (by omega)
 have hN : 0 ≤ gV 256 zs := gV_nonneg (fun i => (h.2 i).1)
 unfold limL
 rw [lO_five, e0, e1, e2, e3, e4]
 rw [show (256 : Int) ^ 0 = 1 from rfl, show (256 : Int) ^ 3 = 16777216 from rfl, show (256 : Int) ^ 6 = 281474976710656 from by decide +kernel, show (256 : Int) ^ 9 = 4722366482869645213696 from by decide +kernel, show (256 : Int) ^ 13 = 20282409603651670423947251286016 from by decide +kernel]
 generalize gV 256 zs = N at *
 clear e0 e1 e2 e3 e4 h
 have f0 : N / 1 % 4294967296 / 1 % 67108864 = N % 67108864 := by omega
 have f1 : N / 16777216 % 4294967296 / 4 % 67108864 = N / 67108864 % 67108864 := by omega
 have f2 : N / 281474976710656 % 4294967296 / 16 % 67108864 = N / 4503599627370496 % 67108864 := by omega
 have f3 : N / 4722366482869645213696 % 4294967296 / 64 % 67108864 = N / 302231454903657293676544 % 67108864 := by omega
 have f4 : N / 20282409603651670423947251286016 % 4294967296 / 1 % 67108864 = N / 20282409603651670423947251286016 % 67108864 := by omega
 rw [f0, f1, f2, f3, f4]
 refine ⟨⟨_, _, _, _, _, rfl, by omega, by omega, by omega, by omega, by omega⟩, ?_⟩
 rw [gV5]
 unfold two130
 clear f0 f1 f2 f3 f4
 omega
theorem or_fin2 : ∀ (x : Fin 4) (y : Fin 64), bits .or .u8 (x.val : Int) ((y.val : Int) * 4) = (x.val : Int) + (y.val : Int) * 4 := by decide +kernel
theorem or_fin4 : ∀ (x : Fin 16) (y : Fin 16), bits .or .u8 (x.val : Int) ((y.val : Int) * 16) = (x.val : Int) + (y.val : Int) * 16 := by decide +kernel
theorem or_fin6 : ∀ (x : Fin 64) (y : Fin 4), bits .or .u8 (x.val : Int) ((y.val : Int) * 64) = (x.val : Int) + (y.val : Int) * 64 := by decide +kernel
theorem or_fin8 : ∀ (y : Fin 256), bits .or .u8 0 (y.val : Int) = (y.val : Int) := by decide +kernel
theorem or_0 {y : Int} (h : 0 ≤ y ∧ y < 256) : bits .or .u8 0 y = y := by
 obtain ⟨n, rfl⟩ : ∃ n : Nat, y = (n : Int) := ⟨y.toNat, by omega⟩
 exact or_fin8 ⟨n, by omega⟩
theorem or_2 {x y : Int} (hx : 0 ≤ x ∧ x < 4) (hy : 0 ≤ y ∧ y < 64) : bits .or .u8 x (y * 4) = x + y * 4 := by
 obtain ⟨m, rfl⟩ : ∃ n : Nat, x = (n : Int) := ⟨x.toNat, by omega⟩
 obtain ⟨n, rfl⟩ : ∃ n : Nat, y = (n : Int) := ⟨y.toNat, by omega⟩
 exact or_fin2 ⟨m, by omega⟩ ⟨n, by omega⟩
theorem or_4 {x y : Int} (hx : 0 ≤ x ∧ x < 16) (hy : 0 ≤ y ∧ y < 16) : bits .or .u8 x (y * 16) = x + y * 16 := by
 obtain ⟨m, rfl⟩ : ∃ n : Nat, x = (n : Int) := ⟨x.toNat, by omega⟩
 obtain ⟨n, rfl⟩ : ∃ n : Nat, y = (n : Int) := ⟨y.toNat, by omega⟩
 exact or_fin4 ⟨m, by omega⟩ ⟨n, by omega⟩
theorem or_6 {x y : Int} (hx : 0 ≤ x ∧ x < 64) (hy : 0 ≤ y ∧ y < 4) : bits .or .u8 x (y * 64) = x + y * 64 := by
 obtain ⟨m, rfl⟩ : ∃ n : Nat, x = (n : Int) := ⟨x.toNat, by omega⟩
 obtain ⟨n, rfl⟩ : ∃ n : Nat, y = (n : Int) := ⟨y.toNat, by omega⟩
 exact or_fin6 ⟨m, by omega⟩ ⟨n, by omega⟩
def oN (c : List Int) (z : Int) (q s : Nat) : Nat → List Int
 | 0 => c
 | n + 1 => (oN c z q s n).set (q + n) (bits .or .u8 ((oN c z q s n).getD (q + n) 0) (z * 2 ^ s / 2 ^ (8 * n) % 256))
theorem oN_length (c : List Int) (z : Int) (q s : Nat) : ∀ n, (oN c z q s n).length = c.length
 | 0 => rfl
 | n + 1 => by rw [oN, List.length_set, oN_length c z q s n]
def oI (x : List Int) : Nat → List Int
 | 0 => List.replicate 17 0
 | i + 1 => oN (oI x i) (x.getD i 0) (26 * i / 8) (26 * i % 8) 4
theorem oI_length (x : List Int) : ∀ i, (oI x i).length = 17
 | 0 => by simp [oI]
 | i + 1 => by rw [oI, oN_length, oI_length x i]
theorem oN4 (c : List Int) (z : Int) (q s : Nat) : oN c z q s 4 = (((c.set q (bits .or .u8 (c.getD q 0) (z * 2 ^ s % 256))).set (q + 1) (bits .or .u8 (c.getD (q + 1) 0) (z * 2 ^ s / 256 % 256))).set (q + 2) (bits .or .u8 (c.getD (q + 2) 0) (z * 2 ^ s / 65536 % 256))).set (q + 3) (bits .or .u8 (c.getD (q + 3) 0) (z * 2 ^ s / 16777216 % 256)) := by
 simp only [oN]
 rw [zah (by omega), zah (by omega), zah (by omega), zah (by omega), zah (by omega), zah (by omega)]
 rw [show (2 : Int) ^ (8 * 0) = 1 from rfl, show (2 : Int) ^ (8 * 1) = 256 from rfl, show (2 : Int) ^ (8 * 2) = 65536 from rfl, show (2 : Int) ^ (8 * 3) = 16777216 from rfl, Int.ediv_one, Nat.add_zero]
def ou (x y : Int) : Int := bits .or .u8 x y
theorem oN_0 (c0 c1 c2 c3 c4 c5 c6 c7 c8 c9 c10 c11 c12 c13 c14 c15 c16 z : Int) : oN [c0, c1, c2, c3, c4, c5, c6, c7, c8, c9, c10, c11, c12, c13, c14, c15, c16] z 0 0 4 = [(ou c0 (z * 2 ^ 0 % 256)), (ou c1 (z * 2 ^ 0 / 256 % 256)), (ou c2 (z * 2 ^ 0 / 65536 % 256)), (ou c3 (z * 2 ^ 0 / 16777216 % 256)), c4, c5, c6, c7, c8, c9, c10, c11, c12, c13, c14, c15, c16] := by
 rw [oN4]
 rfl
theorem oN_3 (c0 c1 c2 c3 c4 c5 c6 c7 c8 c9 c10 c11 c12 c13 c14 c15 c16 z : Int) : oN [c0, c1, c2, c3, c4, c5, c6, c7, c8, c9, c10, c11, c12, c13, c14, c15, c16] z 3 2 4 = [c0, c1, c2, (ou c3 (z * 2 ^ 2 % 256)), (ou c4 (z * 2 ^ 2 / 256 % 256)), (ou c5 (z * 2 ^ 2 / 65536 % 256)), (ou c6 (z * 2 ^ 2 / 16777216 % 256)), c7, c8, c9, c10, c11, c12, c13, c14, c15, c16] := by
 rw [oN4]
 rfl
theorem oN_6 (c0 c1 c2 c3 c4 c5 c6 c7 c8 c9 c10 c11 c12 c13 c14 c15 c16 z : Int) : oN [c0, c1, c2, c3, c4, c5, c6, c7, c8, c9, c10, c11, c12, c13, c14, c15, c16] z 6 4 4 = [c0, c1, c2, c3, c4, c5, (ou c6 (z * 2 ^ 4 % 256)), (ou c7 (z * 2 ^ 4 / 256 % 256)), (ou c8 (z * 2 ^ 4 / 65536 % 256)), (ou c9 (z * 2 ^ 4 / 16777216 % 256)), c10, c11, c12, c13, c14, c15, c16] := by
 rw [oN4]
 rfl
theorem oN_9 (c0 c1 c2 c3 c4 c5 c6 c7 c8 c9 c10 c11 c12 c13 c14 c15 c16 z : Int) : oN [c0, c1, c2, c3, c4, c5, c6, c7, c8, c9, c10, c11, c12, c13, c14, c15, c16] z 9 6 4 = [c0, c1, c2, c3, c4, c5, c6, c7, c8, (ou c9 (z * 2 ^ 6 % 256)), (ou c10 (z * 2 ^ 6 / 256 % 256)), (ou c11 (z * 2 ^ 6 / 65536 % 256)), (ou c12 (z * 2 ^ 6 / 16777216 % 256)), c13, c14, c15, c16] := by
 rw [oN4]
 rfl
theorem oN_13 (c0 c1 c2 c3 c4 c5 c6 c7 c8 c9 c10 c11 c12 c13 c14 c15 c16 z : Int) : oN [c0, c1, c2, c3, c4, c5, c6, c7, c8, c9, c10, c11, c12, c13, c14, c15, c16] z 13 0 4 = [c0, c1, c2, c3, c4, c5, c6, c7, c8, c9, c10, c11, c12, (ou c13 (z * 2 ^ 0 % 256)), (ou c14 (z * 2 ^ 0 / 256 % 256)), (ou c15 (z * 2 ^ 0 / 65536 % 256)), (ou c16 (z * 2 ^ 0 / 16777216 % 256))] := by
 rw [oN4]
 rfl
theorem oI_five (a b c d e : Int) : oI [a, b, c, d, e] 5 = [ou 0 (a * 2 ^ 0 % 256), ou 0 (a * 2 ^ 0 / 256 % 256), ou 0 (a * 2 ^ 0 / 65536 % 256), ou (ou 0 (a * 2 ^ 0 / 16777216 % 256)) (b * 2 ^ 2 % 256), ou 0 (b * 2 ^ 2 / 256 % 256), ou 0 (b * 2 ^ 2 / 65536 % 256),
  ou (ou 0 (b * 2 ^ 2 / 16777216 % 256)) (c * 2 ^ 4 % 256), ou 0 (c * 2 ^ 4 / 256 % 256), ou 0 (c * 2 ^ 4 / 65536 % 256), ou (ou 0 (c * 2 ^ 4 / 16777216 % 256)) (d * 2 ^ 6 % 256), ou 0 (d * 2 ^ 6 / 256 % 256), ou 0 (d * 2 ^ 6 / 65536 % 256), ou 0 (d * 2 ^ 6 / 16777216 % 256),
  ou 0 (e * 2 ^ 0 % 256), ou 0 (e * 2 ^ 0 / 256 % 256), ou 0 (e * 2 ^ 0 / 65536 % 256), ou 0 (e * 2 ^ 0 / 16777216 % 256)] := by
 show oN (oN (oN (oN (oN [0, 0, 0, 0, 0, 0, 0, 0, 0, 0, 0, 0, 0, 0, 0, 0, 0] a 0 0 4) b 3 2 4) c 6 4 4) d 9 6 4) e 13 0 4 = _
 rw [oN_0, oN_3, oN_6, oN_9, oN_13]
def blkL (x : List Int) : List Int := oI x 5
theorem blkL_val {x : List Int} (hx : Lim 67108863 x) : D17 (blkL x) ∧ gV 256 (blkL x) = gV 67108864 x := by
 obtain ⟨a, b, c, d, e, rfl, h1, h2, h3, h4, h5⟩ := hx
 have e0 : (2 : Int) ^ 0 = 1 := rfl
 have e2 : (2 : Int) ^ 2 = 4 := rfl
 have e4 : (2 : Int) ^ 4 = 16 := rfl
 have e6 : (2 : Int) ^ 6 = 64 := rfl
 have hb : b * 4 % 256 = b % 64 * 4 := by omega
 have hc : c * 16 % 256 = c % 16 * 16 := by omega
 have hd : d * 64 % 256 = d % 4 * 64 := by omega
 have key : blkL [a, b, c, d, e] = [a % 256, a / 256 % 256, a / 65536 % 256, a / 16777216 % 256 + b % 64 * 4, b * 4 / 256 % 256, b * 4 / 65536 % 256, b * 4 / 16777216 % 256 + c % 16 * 16, c * 16 / 256 % 256, c * 16 / 65536 % 256, c * 16 / 16777216 % 256 + d % 4 * 64, d * 64 / 256 % 256, d * 64 / 65536 % 256, d * 64 / 16777216 % 256,
   e % 256, e / 256 % 256, e / 65536 % 256, e / 16777216 % 256] := by
  unfold blkL
  rw [oI_five, e0, e2, e4, e6]
  unfold ou
  simp only [Int.mul_one]
  rw [hb, hc, hd]
  have o : ∀ y : Int, bits .or .u8 0 (y % 256) = y % 256 := fun y => or_0 (by omega)
  simp only [o]
  rw [or_2 (by omega) (by omega), or_4 (by omega) (by omega), or_6 (by omega) (by omega)]
 rw [key]
 clear key hb hc hd e0 e2 e4 e6
 refine ⟨⟨rfl, fun i => ?_⟩, ?_⟩
 ·match i with
  | 0 => simp only [List.getD_cons_zero]; omega
  | 1 => simp only [List.getD_cons_zero, List.getD_cons_succ]; omega
  | 2 => simp only [List.getD_cons_zero, List.getD_cons_succ]; omega
  | 3 => simp only [List.getD_cons_zero, List.getD_cons_succ]; omega
  | 4 => simp only [List.getD_cons_zero, List.getD_cons_succ]; omega
  | 5 => simp only [List.getD_cons_zero, List.getD_cons_succ]; omega
  | 6 => simp only [List.getD_cons_zero, List.getD_cons_succ]; omega
  | 7 => simp only [List.getD_cons_zero, List.getD_cons_succ]; omega
  | 8 => simp only [List.getD_cons_zero, List.getD_cons_succ]; omega
  | 9 => simp only [List.getD_cons_zero, List.getD_cons_succ]; omega
  | 10 => simp only [List.getD_cons_zero, List.getD_cons_succ]; omega
  | 11 => simp only [List.getD_cons_zero, List.getD_cons_succ]; omega
  | 12 => simp only [List.getD_cons_zero, List.getD_cons_succ]; omega
  | 13 => simp only [List.getD_cons_zero, List.getD_cons_succ]; omega
  | 14 => simp only [List.getD_cons_zero, List.getD_cons_succ]; omega
  | 15 => simp only [List.getD_cons_zero, List.getD_cons_succ]; omega
  | 16 => simp only [List.getD_cons_zero, List.getD_cons_succ]; omega
  | n + 17 => simp
 ·rw [gV5]
  have ha : a = a % 256 + 256 * (a / 256 % 256) + 65536 * (a / 65536 % 256) + 16777216 * (a / 16777216 % 256) := by omega
  have hb : b = b % 64 + 64 * (b * 4 / 256 % 256) + 16384 * (b * 4 / 65536 % 256) + 4194304 * (b * 4 / 16777216 % 256) := by omega
  have hc : c = c % 16 + 16 * (c * 16 / 256 % 256) + 4096 * (c * 16 / 65536 % 256) + 1048576 * (c * 16 / 16777216 % 256) := by omega
  have hd : d = d % 4 + 4 * (d * 64 / 256 % 256) + 1024 * (d * 64 / 65536 % 256) + 262144 * (d * 64 / 16777216 % 256) := by omega
  have he : e = e % 256 + 256 * (e / 256 % 256) + 65536 * (e / 65536 % 256) + 16777216 * (e / 16777216 % 256) := by omega
  simp only [gV]
  generalize a % 256 = a0 at *
  generalize a / 256 % 256 = a1 at *
  generalize a / 65536 % 256 = a2 at *
  generalize a / 16777216 % 256 = a3 at *
  generalize b % 64 = b0 at *
  generalize b * 4 / 256 % 256 = b1 at *
  generalize b * 4 / 65536 % 256 = b2 at *
  generalize b * 4 / 16777216 % 256 = b3 at *
  generalize c % 16 = c0 at *
  generalize c * 16 / 256 % 256 = c1 at *
  generalize c * 16 / 65536 % 256 = c2 at *
  generalize c * 16 / 16777216 % 256 = c3 at *
  generalize d % 4 = d0 at *
  generalize d * 64 / 256 % 256 = d1 at *
  generalize d * 64 / 65536 % 256 = d2 at *
  generalize d * 64 / 16777216 % 256 = d3 at *
  generalize e % 256 = f0 at *
  generalize e / 256 % 256 = f1 at *
  generalize e / 65536 % 256 = f2 at *
  generalize e / 16777216 % 256 = f3 at *
  clear h1 h2 h3 h4 h5
  omega
def iB (l : List UInt8) : List Int := l.map fun b => (b.toNat : Int)
theorem iB_length (l : List UInt8) : (iB l).length = l.length := by simp [iB]
theorem iB_getD (l : List UInt8) (i : Nat) : (iB l).getD i 0 = ((l.getD i 0).toNat : Int) := by
 simp only [iB, List.getD_eq_getElem?_getD, List.getElem?_map]
 rcases h : l[i]? with _ | b <;> rfl
theorem bval_ints (l : List UInt8) : l.map bval = ints .u8 (iB l) := by
 unfold ints iB
 rw [List.map_map]
 rfl
theorem D17_iB {l : List UInt8} (h : l.length = 17) : D17 (iB l) := ⟨by rw [iB_length, h], fun i => by
 rw [iB_getD]
 have := (l.getD i 0).toNat_lt
 omega⟩
def onB (c : List UInt8) : List UInt8 := c ++ (1 :: List.replicate (16 - c.length) 0)
theorem onB_length {c : List UInt8} (h : c.length ≤ 16) : (onB c).length = 17 := by
 unfold onB
 simp
 omega
theorem onB_val (c : List UInt8) : gV 256 (iB (onB c)) = ((leN c : Nat) : Int) + 256 ^ c.length := by
 unfold iB onB
 rw [List.map_append, zel, gV_bytes, List.length_map]
 have e : (List.map (fun b : UInt8 => (b.toNat : Int)) (1 :: List.replicate (16 - c.length) 0)) = 1 :: List.replicate (16 - c.length) 0 := by simp
 rw [e, gV, gV_zeros, Int.mul_zero, Int.add_zero, Int.mul_one]
theorem piece_len (m : List UInt8) (n : Nat) : ((m.drop (16 * n)).take 16).length = min 16 (m.length - 16 * n) := by rw [List.length_take, List.length_drop]
theorem onB_blk (m : List UInt8) (n : Nat) : gV 256 (iB (onB ((m.drop (16 * n)).take 16))) = pBlk m n := by
 rw [onB_val, piece_len]
 rfl
theorem pBlk_range (m : List UInt8) (n : Nat) : 0 ≤ pBlk m n ∧ pBlk m n < two130 := by
 have h1 := leN_lt ((m.drop (16 * n)).take 16)
 have hl := piece_len m n
 have h2 : 256 ^ ((m.drop (16 * n)).take 16).length ≤ 256 ^ 16 := Nat.pow_le_pow_right (by omega) (by omega)
 have h3 : pBlk m n = (((leN ((m.drop (16 * n)).take 16)) + 256 ^ ((m.drop (16 * n)).take 16).length : Nat) : Int) := by
  unfold pBlk
  rw [hl]
  simp
 rw [h3]
 generalize leN ((m.drop (16 * n)).take 16) = a at *
 generalize 256 ^ ((m.drop (16 * n)).take 16).length = b at *
 have h4 : (256 ^ 16 : Nat) = 340282366920938463463374607431768211456 := by decide +kernel
 rw [h4] at h2
 unfold two130
 omega
theorem pDigit_le (key : List UInt8) (i : Nat) : pDigit key i ≤ 255 := by
 unfold pDigit
 have := (key.getD i 0).toNat_lt
 split
 ·omega
 ·split <;> omega
theorem pR_range (key : List UInt8) : 0 ≤ pR key ∧ pR key < 340282366920938463463374607431768211456 := by
 have h := gV_range (B := 256) (by omega) (zs := pDigits key) (fun i hi => by
  rw [zdx] at hi
  rw [pDigits_getD key hi]
  have := pDigit_le key i
  omega)
 rw [zdx, pow_16] at h
 exact h
theorem D17_rC (key : List UInt8) : D17 (rC key 3) := ⟨zdw key 3, fun i => rC_digit key 3 i (by omega)⟩
def rL (key : List UInt8) : List Int := limL (rC key 3)
theorem rL_val (key : List UInt8) : Lim 67108863 (rL key) ∧ gV 67108864 (rL key) = pR key := by
 obtain ⟨h1, h2⟩ := limL_val (D17_rC key)
 refine ⟨h1, h2.trans ?_⟩
 rw [rC_val]
 have := pR_range key
 unfold two130
 exact Int.emod_eq_of_lt this.1 (by omega)
def fL (R : List Int) (m : List UInt8) : Nat → List Int
 | 0 => List.replicate 5 0
 | n + 1 => timL (addL (fL R m n) (limL (iB (onB ((m.drop (16 * n)).take 16))))) R
theorem blk_lim (m : List UInt8) (n : Nat) : Lim 67108863 (limL (iB (onB ((m.drop (16 * n)).take 16)))) ∧ gV 67108864 (limL (iB (onB ((m.drop (16 * n)).take 16)))) = pBlk m n := by
 obtain ⟨h1, h2⟩ := limL_val (D17_iB (onB_length (c := (m.drop (16 * n)).take 16) (by rw [piece_len]; omega)))
 refine ⟨h1, h2.trans ?_⟩
 rw [onB_blk]
 have := pBlk_range m n
 exact Int.emod_eq_of_lt this.1 this.2
theorem fL_val (key m : List UInt8) : ∀ n, Near (fL (rL key) m n) ∧ gV 67108864 (fL (rL key) m n) % (pQ : Int) = pAcc (pR key) m n
 | 0 => ⟨Near.zero, by rw [fL, gV_zeros]; rfl⟩
 | n + 1 => by
  obtain ⟨h1, h2⟩ := fL_val key m n
  obtain ⟨b1, b2⟩ := blk_lim m n
  obtain ⟨r1, r2⟩ := rL_val key
  obtain ⟨a1, a2⟩ := addL_val h1.lim b1
  obtain ⟨t1, t2⟩ := timL_val (a1.up (by omega)) r1
  rw [fL]
  refine ⟨t1, t2.trans ?_⟩
  rw [a2, b2, r2, pAcc, ← h2]
  generalize gV 67108864 (fL (rL key) m n) = V
  have e : (V % (pQ : Int) + pBlk m n) % (pQ : Int) = (V + pBlk m n) % (pQ : Int) := by rw [Int.add_emod, Int.emod_emod, ← Int.add_emod]
  rw [Int.mul_emod, ← e, ← Int.mul_emod]
def sL (key : List UInt8) : List Int := limL (iB ((key.drop 16).take 16 ++ [0]))
def outL (key m : List UInt8) : List Int := setL (addL (redL (fL (rL key) m ((m.length + 15) / 16))) (sL key))
theorem iB_snoc (l : List UInt8) : gV 256 (iB (l ++ [0])) = ((leN l : Nat) : Int) := by
 unfold iB
 rw [List.map_append, zel, gV_bytes]
 simp [gV]
theorem sL_val {key : List UInt8} (hk : key.length = 32) : Lim 67108863 (sL key) ∧ gV 67108864 (sL key) = (pS key : Int) := by
 have hl : ((key.drop 16).take 16).length = 16 := by rw [List.length_take, List.length_drop]; omega
 obtain ⟨h1, h2⟩ := limL_val (D17_iB (l := (key.drop 16).take 16 ++ [0]) (by rw [List.length_append, hl]; rfl))
 refine ⟨h1, h2.trans ?_⟩
 rw [iB_snoc]
 have h3 := leN_lt ((key.drop 16).take 16)
 rw [hl, show (256 ^ 16 : Nat) = 340282366920938463463374607431768211456 from by decide +kernel] at h3
 unfold two130 pS
 exact Int.emod_eq_of_lt (by omega) (by omega)
theorem outL_val {key m : List UInt8} (hk : key.length = 32) : Lim 67108863 (outL key m) ∧ gV 67108864 (outL key m) = (pNum key m + pS key) % two130 := by
 obtain ⟨f1, f2⟩ := fL_val key m ((m.length + 15) / 16)
 obtain ⟨s1, s2⟩ := sL_val hk
 obtain ⟨r1, r2⟩ := redL_val f1.lim.len (fun i => (f1.lim.getD (by omega) i).1) f1.below
 obtain ⟨a1, a2⟩ := addL_val r1 s1
 obtain ⟨o1, o2⟩ := setL_val a1.len
 refine ⟨o1, o2.trans ?_⟩
 rw [a2, r2, f2, s2]
 rfl
theorem take16 (X : Nat) : (bytesN 17 X).take 16 = bytesN 16 X := by
 have e : bytesN 17 X = bytesN 16 X ++ bytesN 1 (X / 256 ^ 16) := zds 16 1 X
 rw [e, List.take_append_of_le_length (by rw [zaz]; omega), List.take_of_length_le (by rw [zaz]; omega)]
theorem mod16 (N K : Nat) (hK : K = 4 * 256 ^ 16) : bytesN 16 (N % K) = bytesN 16 N := by
 rw [← bytesN_mod 16 (N % K), ← bytesN_mod 16 N, hK]
 congr 1
 generalize (256 : Nat) ^ 16 = B
 exact Nat.mod_mul_left_mod _ _ _
theorem tag_bytes {key m : List UInt8} (hk : key.length = 32) : ∃ l : List UInt8, l.length = 17 ∧ blkL (outL key m) = iB l ∧ l.take 16 = polyTag key m := by
 obtain ⟨o1, o2⟩ := outL_val (m := m) hk
 obtain ⟨b1, b2⟩ := blkL_val o1
 have hp := (pAcc_range (pR key) m ((m.length + 15) / 16)).1
 have hnum : 0 ≤ pNum key m := hp
 obtain ⟨N, hN⟩ : ∃ N : Nat, (pNum key m + pS key) = (N : Int) := ⟨(pNum key m + pS key).toNat, by omega⟩
 rw [hN] at o2
 have e0 : ((1361129467683753853853498429727072845824 : Nat) : Int) = two130 := by decide +kernel
 have e : blkL (outL key m) = dig 17 (N % 1361129467683753853853498429727072845824) := dig_of b1.1 (fun i hi => by have := b1.2 i; omega) (by
  rw [b2, o2, Int.natCast_emod, e0])
 refine ⟨bytesN 17 (N % 1361129467683753853853498429727072845824), zaz _ _, e, ?_⟩
 unfold polyTag
 rw [hN, Int.toNat_natCast, take16]
 exact mod16 N _ (by decide +kernel)
theorem Tryz.arr105 : (Tryz.prog.info? 105).map (·.size) = some 5 := by kernel_rfl
theorem zde {l : List Int} (h : l.length = 5) : (Tryz.prog.info? 105).map (·.size) = some (ints .u64 l).length := by rw [zad, h]; exact Tryz.arr105
theorem digit_q {w : World} {S i : Nat} {l : List Int} {t : TypeId} (h : Blk w S (ints .u64 l) t) (hi : i < l.length) : w.cell? ⟨S, i, none⟩ = some (.int .u64 (l.getD i 0)) := by
 rw [h.cell, zav hi]
theorem digit_b {w : World} {S i : Nat} {l : List Int} {t : TypeId} (h : Blk w S (ints .u8 l) t) (hi : i < l.length) : w.cell? ⟨S, i, none⟩ = some (.int .u8 (l.getD i 0)) := by
 rw [h.cell, zav hi]
theorem mask26 (a : Int) (h0 : 0 ≤ a) (h1 : a ≤ 18446744073709551615) : bits .and .u64 a 67108863 = a % 67108864 := by
 obtain ⟨n, rfl⟩ : ∃ n : Nat, a = (n : Int) := ⟨a.toNat, by omega⟩
 have h := bits_and_u64_nat n 67108863 (by omega) (by omega)
 have e : n &&& 67108863 = n % 67108864 := Nat.and_two_pow_sub_one_eq_mod n 26
 rw [e] at h
 exact h
theorem pcarried_any (a b c d e : Int) (ha : 0 ≤ a ∧ a ≤ 378302368699121664) (hb : 0 ≤ b ∧ b ≤ 378302368699121664) (hc : 0 ≤ c ∧ c ≤ 378302368699121664) (hd : 0 ≤ d ∧ d ≤ 378302368699121664) (he : 0 ≤ e ∧ e ≤ 90071992547409920) (w : World) :
  Calls Tryz.prog 121 #[.agg (ints .u64 [a, b, c, d, e]).toArray] w fun x w' => x = .returned (.agg (ints .u64 (carL [a, b, c, d, e])).toArray) ∧ Below w.heap.size w w' := by
 obtain ⟨b1, hb1⟩ : ∃ x, x = b + a / 67108864 := ⟨_, rfl⟩
 obtain ⟨c1, hc1⟩ : ∃ x, x = c + b1 / 67108864 := ⟨_, rfl⟩
 obtain ⟨d1, hd1⟩ : ∃ x, x = d + c1 / 67108864 := ⟨_, rfl⟩
 obtain ⟨e1, he1⟩ : ∃ x, x = e + d1 / 67108864 := ⟨_, rfl⟩
 obtain ⟨l, hl⟩ : ∃ x, x = a % 67108864 + 5 * (e1 / 67108864) := ⟨_, rfl⟩
 have HO : Hid (carL [a, b, c, d, e] = [l % 67108864, b1 % 67108864 + l / 67108864, c1 % 67108864, d1 % 67108864, e1 % 67108864]) := jh (by subst hl he1 hd1 hc1 hb1; rfl)
 have b2 : 0 ≤ b1 ∧ b1 ≤ 378302374400000000 := by omega
 have c2 : 0 ≤ c1 ∧ c1 ≤ 378302374400000000 := by omega
 have d2 : 0 ≤ d1 ∧ d1 ≤ 378302374400000000 := by omega
 have e2 : 0 ≤ e1 ∧ e1 ≤ 90071998300000000 := by omega
 have l2 : 0 ≤ l ∧ l ≤ 6777996000 := by omega
 rw [HO.out]
 have W1 : Hid (b + a / 67108864 = b1) := jh hb1.symm
 have W2 : Hid (c + b1 / 67108864 = c1) := jh hc1.symm
 have W3 : Hid (d + c1 / 67108864 = d1) := jh hd1.symm
 have W4 : Hid (e + d1 / 67108864 = e1) := jh he1.symm
 have W5 : Hid (a % 67108864 + 5 * (e1 / 67108864) = l) := jh hl.symm
 have HB := jh (boxes2 w (ints .u64 [a, b, c, d, e]) (ints .u64 [0, 0, 0, 0, 0]) 105 105)
 clear hb1 hc1 hd1 he1 hl HO
 go_enter Tryz.func121, Tryz.ntmps121
 go_upto_region 1 with (fail)
 obtain ⟨H1, H2, HE⟩ := HB.out
 change Code.wp _ _ _ _ ((w.alloc (.cells (ints .u64 [a, b, c, d, e]).toArray 105)).alloc (.cells (ints .u64 [0, 0, 0, 0, 0]).toArray 105))
 generalize (w.alloc (.cells (ints .u64 [a, b, c, d, e]).toArray 105)).alloc (.cells (ints .u64 [0, 0, 0, 0, 0]).toArray 105) = wa at *
 obtain ⟨A, hA⟩ : ∃ A, A = w.heap.size := ⟨_, rfl⟩
 have HAW : Hid (w.heap.size ≤ A) := jh (by omega)
 rw [← hA] at H1 H2 ⊢
 have H1 := jh H1
 have H2 := jh H2
 have HE : Hid (Ext w wa) := jh HE
 clear hA HB
 have q0 := H1.out.cell 0
 have q1 := H1.out.cell 1
 have f1 := H1.out.free 1
 simp only [ints, List.map_cons, List.map_nil, List.getElem?_cons_zero, List.getElem?_cons_succ] at q0 q1
 go_upto_region 2 with (fail)
 rw [W1.out]
 have H1 : Hid (Blk (wa.setCell ⟨A, 1, none⟩ (.int .u64 b1)) A (ints .u64 [a, b1, c, d, e]) 105) := jh (H1.out.seti 1 _)
 have H2 := jh (H2.out.far (a := ⟨A, 1, none⟩) (by simp) (.int .u64 b1))
 have HE : Hid (Ext w (wa.setCell ⟨A, 1, none⟩ (.int .u64 b1))) := jh (Below.setCell HE.out (by have := HAW.out; simp; omega) _)
 generalize wa.setCell ⟨A, 1, none⟩ (.int .u64 b1) = wa1 at *
 clear q0 q1 f1
 have q0 := H1.out.cell 1
 have q1 := H1.out.cell 2
 have f1 := H1.out.free 2
 simp only [ints, List.map_cons, List.map_nil, List.getElem?_cons_zero, List.getElem?_cons_succ] at q0 q1
 go_upto_region 3 with (fail)
 rw [W2.out]
 have H1 : Hid (Blk (wa1.setCell ⟨A, 2, none⟩ (.int .u64 c1)) A (ints .u64 [a, b1, c1, d, e]) 105) := jh (H1.out.seti 2 _)
 have H2 := jh (H2.out.far (a := ⟨A, 2, none⟩) (by simp) (.int .u64 c1))
 have HE : Hid (Ext w (wa1.setCell ⟨A, 2, none⟩ (.int .u64 c1))) := jh (Below.setCell HE.out (by have := HAW.out; simp; omega) _)
 generalize wa1.setCell ⟨A, 2, none⟩ (.int .u64 c1) = wa2 at *
 clear q0 q1 f1
 have q0 := H1.out.cell 2
 have q1 := H1.out.cell 3
 have f1 := H1.out.free 3
 simp only [ints, List.map_cons, List.map_nil, List.getElem?_cons_zero, List.getElem?_cons_succ] at q0 q1
 go_upto_region 4 with (fail)
 rw [W3.out]
 have H1 : Hid (Blk (wa2.setCell ⟨A, 3, none⟩ (.int .u64 d1)) A (ints .u64 [a, b1, c1, d1, e]) 105) := jh (H1.out.seti 3 _)
 have H2 := jh (H2.out.far (a := ⟨A, 3, none⟩) (by simp) (.int .u64 d1))
 have HE : Hid (Ext w (wa2.setCell ⟨A, 3, none⟩ (.int .u64 d1))) := jh (Below.setCell HE.out (by have := HAW.out; simp; omega) _)
 generalize wa2.setCell ⟨A, 3, none⟩ (.int .u64 d1) = wa3 at *
 clear q0 q1 f1
 have q0 := H1.out.cell 3
 have q1 := H1.out.cell 4
 have f1 := H1.out.free 4
 simp only [ints, List.map_cons, List.map_nil, List.getElem?_cons_zero, List.getElem?_cons_succ] at q0 q1
 go_upto_region 5 with (fail)
 rw [W4.out]
 have H1 : Hid (Blk (wa3.setCell ⟨A, 4, none⟩ (.int .u64 e1)) A (ints .u64 [a, b1, c1, d1, e1]) 105) := jh (H1.out.seti 4 _)
 have H2 := jh (H2.out.far (a := ⟨A, 4, none⟩) (by simp) (.int .u64 e1))
 have HE : Hid (Ext w (wa3.setCell ⟨A, 4, none⟩ (.int .u64 e1))) := jh (Below.setCell HE.out (by have := HAW.out; simp; omega) _)
 generalize wa3.setCell ⟨A, 4, none⟩ (.int .u64 e1) = wa4 at *
 clear q0 q1 f1
 have q0 := H1.out.cell 0
 have q1 := H1.out.cell 1
 have q2 := H1.out.cell 2
 have q3 := H1.out.cell 3
 have q4 := H1.out.cell 4
 have m0 := mask26 a (by omega) (by omega)
 have m1 := mask26 b1 (by omega) (by omega)
 have m2 := mask26 c1 (by omega) (by omega)
 have m3 := mask26 d1 (by omega) (by omega)
 have m4 := mask26 e1 (by omega) (by omega)
 have m5 := mask26 l (by omega) (by omega)
 simp only [ints, List.map_cons, List.map_nil, List.getElem?_cons_zero, List.getElem?_cons_succ] at q0 q1 q2 q3 q4
 go_upto_region 6 with (fail)
 rw [W5.out]
 go_wp2_with (refine zac rfl _ _ _ rfl (A + 1) (ints .u64 [l % 67108864, b1 % 67108864 + l / 67108864, c1 % 67108864, d1 % 67108864, e1 % 67108864]) rfl rfl _ _ H2.out rfl (zde rfl) (zai _ _) ?_; intro w5 hb5 hg5)
 refine bodyPost_ret (zap rfl _ (A + 1) _ _ _ _ rfl hb5 Tryz.underlying105 (zde rfl)) rfl ?_
 exact ⟨rfl, zae HE.out hg5 (by have := HAW.out; omega)⟩
theorem setL_len {x : List Int} (hx : x.length = 5) : (setL x).length = 5 := by unfold setL; rw [zeb, hx]
theorem pplus_any (x y : List Int) (w : World) (hx : Lim 1152921504606846976 x) (hy : Lim 1152921504606846976 y) :
  Calls Tryz.prog 79 #[.agg (ints .u64 x).toArray, .agg (ints .u64 y).toArray] w fun e w' => e = .returned (.agg (ints .u64 (addL x y)).toArray) ∧ Below w.heap.size w w' := by
 have HX := jh hx
 have HY := jh hy
 have HB := jh (boxes3 w (ints .u64 x) (ints .u64 y) (ints .u64 (List.replicate 5 0)) 105 105 105)
 clear hx hy
 go_enter Tryz.func79, Tryz.ntmps79
 go_upto_region 1 with (fail)
 obtain ⟨H1, H2, H3, HE⟩ := HB.out
 change Code.wp _ _ _ _ (((w.alloc (.cells (ints .u64 x).toArray 105)).alloc (.cells (ints .u64 y).toArray 105)).alloc (.cells (ints .u64 (List.replicate 5 0)).toArray 105))
 generalize ((w.alloc (.cells (ints .u64 x).toArray 105)).alloc (.cells (ints .u64 y).toArray 105)).alloc (.cells (ints .u64 (List.replicate 5 0)).toArray 105) = wa at *
 obtain ⟨A, hA⟩ : ∃ A, A = w.heap.size := ⟨_, rfl⟩
 have HAW : Hid (w.heap.size ≤ A) := jh (by omega)
 rw [← hA] at H1 H2 H3 ⊢
 have H1 : Hid (Blk wa A (ints .u64 (sA x y 0)) 105) := jh H1
 have H2 := jh H2
 have H3 := jh H3
 have HE : Hid (Ext w wa) := jh HE
 clear hA HB
 go_wp2_with fail
 go_loopw [6] (fun iv wr => ∃ (k : Nat), k ≤ 5 ∧ iv = .int .i64 (k : Int) ∧ Blk wr A (ints .u64 (sA x y k)) 105 ∧ Blk wr (A + 1) (ints .u64 y) 105 ∧ Blk wr (A + 1 + 1) (ints .u64 (List.replicate 5 0)) 105 ∧ Ext w wr) (fun iv _ => 5 - (intOf iv).toNat)
 case atStart => exact ⟨0, by omega, rfl, H1.out, H2.out, H3.out, HE.out⟩
 case round =>
  clear H1 H2 H3 HE
  obtain ⟨k, hk, rfl, hb1, hb2, hb3, hbel⟩ := hrel
  have k0 : (0 : Int) ≤ (k : Int) := Int.natCast_nonneg _
  have H1 := jh hb1
  have H2 := jh hb2
  have H3 := jh hb3
  have HE := jh hbel
  by_cases hlk : k < 5
  ·have k1 : (k : Int) < 5 := by omega
   have q1 := digit_q hb1 (i := k) (by rw [sA_length, HX.out.len]; exact hlk)
   have q2 := digit_q hb2 (i := k) (by rw [HY.out.len]; exact hlk)
   have f1 := hb1.free k
   have hxa := HX.out.getD (by omega) k
   have hya := HY.out.getD (by omega) k
   rw [sA_getD x y k (by rw [HX.out.len]; exact hk) k, if_neg (Nat.lt_irrefl _)] at q1
   have HS : Hid (sA x y (k + 1) = (sA x y k).set k (x.getD k 0 + y.getD k 0)) := jh (by rw [sA, sA_getD x y k (by rw [HX.out.len]; exact hk) k, if_neg (Nat.lt_irrefl _)])
   clear hb1 hb2 hb3 hbel
   generalize x.getD k 0 = p at *
   generalize y.getD k 0 = q at *
   obtain ⟨p0, p1⟩ := hxa
   obtain ⟨r0, r1⟩ := hya
   go_wp2_with fail
   go_region
   go_wp2_with fail
   go_roundw
   case rel => exact ⟨k + 1, by omega, by go_num, by rw [HS.out]; exact (H1.out.seti k _).drewN 1, (H2.out.far (by simp) _).drewN 1, (H3.out.far (by simp; omega) _).drewN 1, Ext.trans (Below.setCell HE.out (by have := HAW.out; simp; omega) _) (Ext.drew _)⟩
   case measure => simp [intOf]; omega
  ·have hk5 : k = 5 := by omega
   subst hk5
   clear hb1 hb2 hb3 hbel
   have HL : Hid ((sA x y 5).length = 5) := jh (by rw [sA_length, HX.out.len])
   have HR : Hid (addL x y = sA x y 5) := jh rfl
   generalize sA x y 5 = s at *
   have HI : Hid ((Tryz.prog.info? 105).map (·.size) = some (ints .u64 s).length) := jh (zde HL.out)
   have HLz : Hid ((ints .u64 s).length = (ints .u64 (List.replicate 5 0)).length) := jh (by rw [zad, HL.out]; rfl)
   go_wp2_with (first | (refine zab rfl _ _ rfl A rfl _ _ _ _ H1.out Tryz.underlying105 HI.out ?_) | (refine zac rfl _ _ _ rfl (A + 1 + 1) (ints .u64 s) rfl rfl _ _ H3.out HLz.out HI.out (zai _ _) ?_; intro w5 hb5 hg5))
   refine bodyPost_ret (zap rfl _ (A + 1 + 1) _ _ _ _ rfl hb5 Tryz.underlying105 HI.out) rfl ?_
   exact ⟨by rw [HR.out], zae HE.out hg5 (by have := HAW.out; omega)⟩
theorem psettled_any (x : List Int) (w : World) (hx : Lim 1152921504606846976 x) :
  Calls Tryz.prog 78 #[.agg (ints .u64 x).toArray] w fun e w' => e = .returned (.agg (ints .u64 (setL x)).toArray) ∧ Below w.heap.size w w' := by
 have HX := jh hx
 have HB := jh (boxes2 w (ints .u64 x) (ints .u64 (List.replicate 5 0)) 105 105)
 clear hx
 go_enter Tryz.func78, Tryz.ntmps78
 go_upto_region 1 with (fail)
 obtain ⟨H1, H2, HE⟩ := HB.out
 change Code.wp _ _ _ _ ((w.alloc (.cells (ints .u64 x).toArray 105)).alloc (.cells (ints .u64 (List.replicate 5 0)).toArray 105))
 generalize (w.alloc (.cells (ints .u64 x).toArray 105)).alloc (.cells (ints .u64 (List.replicate 5 0)).toArray 105) = wa at *
 obtain ⟨A, hA⟩ : ∃ A, A = w.heap.size := ⟨_, rfl⟩
 have HAW : Hid (w.heap.size ≤ A) := jh (by omega)
 rw [← hA] at H1 H2 ⊢
 have H1 : Hid (Blk wa A (ints .u64 (zRun x 0).1) 105) := jh H1
 have H2 := jh H2
 have HE : Hid (Ext w wa) := jh HE
 clear hA HB
 go_wp2_with fail
 go_loopw [3, 5] (fun cv iv wr => ∃ (k : Nat), k ≤ 5 ∧ cv = .int .u64 (zRun x k).2 ∧ iv = .int .i64 (k : Int) ∧ Blk wr A (ints .u64 (zRun x k).1) 105 ∧ Blk wr (A + 1) (ints .u64 (List.replicate 5 0)) 105 ∧ Ext w wr) (fun _ iv _ => 5 - (intOf iv).toNat)
 case atStart => exact ⟨0, by omega, rfl, rfl, H1.out, H2.out, HE.out⟩
 case round =>
  clear H1 H2 HE
  obtain ⟨k, hk, rfl, rfl, hb1, hb2, hbel⟩ := hrel
  have k0 : (0 : Int) ≤ (k : Int) := Int.natCast_nonneg _
  have H1 := jh hb1
  have H2 := jh hb2
  have HE := jh hbel
  by_cases hlk : k < 5
  ·have k1 : (k : Int) < 5 := by omega
   have q1 := digit_q hb1 (i := k) (by rw [zeb, HX.out.len]; exact hlk)
   have f1 := hb1.free k
   have hxa := HX.out.getD (by omega) k
   have hca := zRun_carry (M := 1152921504606846976) (by omega) x (HX.out.getD (by omega)) k
   rw [zRun_far x k k (Nat.le_refl _)] at q1
   have HS : Hid (zRun x (k + 1) = ((zRun x k).1.set k (((zRun x k).2 + x.getD k 0) % 67108864), ((zRun x k).2 + x.getD k 0) / 67108864)) := jh (by rw [zRun, zRun_far x k k (Nat.le_refl _)])
   clear hb1 hb2 hbel
   generalize x.getD k 0 = p at *
   generalize (zRun x k).2 = q at *
   obtain ⟨p0, p1⟩ := hxa
   obtain ⟨r0, r1⟩ := hca
   have m1 := mask26 (q + p) (by omega) (by omega)
   go_wp2_with fail
   go_roundw
   case rel => exact ⟨k + 1, by omega, by rw [HS.out], by go_num, by rw [HS.out]; exact H1.out.seti k _, H2.out.far (by simp) _, Below.setCell HE.out (by have := HAW.out; simp; omega) _⟩
   case measure => simp [intOf]; omega
  ·have hk5 : k = 5 := by omega
   subst hk5
   clear hb1 hb2 hbel
   have HL : Hid ((zRun x 5).1.length = 5) := jh (by rw [zeb, HX.out.len])
   have HR : Hid (setL x = (zRun x 5).1) := jh rfl
   generalize (zRun x 5).1 = s at *
   have HI : Hid ((Tryz.prog.info? 105).map (·.size) = some (ints .u64 s).length) := jh (zde HL.out)
   have HLz : Hid ((ints .u64 s).length = (ints .u64 (List.replicate 5 0)).length) := jh (by rw [zad, HL.out]; rfl)
   go_wp2_with (first | (refine zab rfl _ _ rfl A rfl _ _ _ _ H1.out Tryz.underlying105 HI.out ?_) | (refine zac rfl _ _ _ rfl (A + 1) (ints .u64 s) rfl rfl _ _ H2.out HLz.out HI.out (zai _ _) ?_; intro w5 hb5 hg5))
   refine bodyPost_ret (zap rfl _ (A + 1) _ _ _ _ rfl hb5 Tryz.underlying105 HI.out) rfl ?_
   exact ⟨by rw [HR.out], zae HE.out hg5 (by have := HAW.out; omega)⟩
theorem Tryz.arr104 : (Tryz.prog.info? 104).map (·.size) = some 17 := by kernel_rfl
theorem blk_size17 {l : List Int} (h : l.length = 17) : (Tryz.prog.info? 104).map (·.size) = some (ints .u8 l).length := by rw [zad, h]; exact Tryz.arr104
theorem or4q {y0 y1 y2 y3 : Int} (h0 : 0 ≤ y0 ∧ y0 ≤ 255) (h1 : 0 ≤ y1 ∧ y1 ≤ 255) (h2 : 0 ≤ y2 ∧ y2 ≤ 255) (h3 : 0 ≤ y3 ∧ y3 ≤ 255) :
  bits .or .u64 (bits .or .u64 (bits .or .u64 y0 (y1 * 256)) (y2 * 65536)) (y3 * 16777216) = y0 + 256 * y1 + 65536 * y2 + 16777216 * y3 := by
 obtain ⟨x0, rfl⟩ : ∃ n : Nat, y0 = (n : Int) := ⟨y0.toNat, by omega⟩
 obtain ⟨x1, rfl⟩ : ∃ n : Nat, y1 = (n : Int) := ⟨y1.toNat, by omega⟩
 obtain ⟨x2, rfl⟩ : ∃ n : Nat, y2 = (n : Int) := ⟨y2.toNat, by omega⟩
 obtain ⟨x3, rfl⟩ : ∃ n : Nat, y3 = (n : Int) := ⟨y3.toNat, by omega⟩
 have a1 : (x1 : Int) * 256 = ((256 * x1 : Nat) : Int) := by omega
 have a2 : (x2 : Int) * 65536 = ((65536 * x2 : Nat) : Int) := by omega
 have a3 : (x3 : Int) * 16777216 = ((16777216 * x3 : Nat) : Int) := by omega
 have b1 : x0 ||| 256 * x1 = x0 + 256 * x1 := (Nat.or_comm _ _).trans ((or_sum 8 x0 x1 (by omega)).trans (Nat.add_comm _ _))
 have b2 : x0 + 256 * x1 ||| 65536 * x2 = x0 + 256 * x1 + 65536 * x2 := (Nat.or_comm _ _).trans ((or_sum 16 (x0 + 256 * x1) x2 (by omega)).trans (Nat.add_comm _ _))
 have b3 : x0 + 256 * x1 + 65536 * x2 ||| 16777216 * x3 = x0 + 256 * x1 + 65536 * x2 + 16777216 * x3 := (Nat.or_comm _ _).trans ((or_sum 24 (x0 + 256 * x1 + 65536 * x2) x3 (by omega)).trans (Nat.add_comm _ _))
 rw [a1, a2, a3, or64 _ _ (by omega) (by omega), b1, or64 _ _ (by omega) (by omega), b2, or64 _ _ (by omega) (by omega), b3]
 omega
/-- A word is read off four bytes of a block. -/
theorem pword_any (c off len cap : Nat) (zs : List Int) (t : TypeId) (w : World) (hb : Blk w c (ints .u8 zs) t) (hz : D17 zs) (hl : off + 4 ≤ 17) (h4 : 4 ≤ len) :
  Calls Tryz.prog 107 #[.slice (some ⟨c, off, none⟩) len cap] w fun e w' => e = .returned (.int .u64 (w4 zs off)) ∧ w' = w.drew := by
 have cc : ∀ j, j ≤ 3 → w.cell? ⟨c, off + j, none⟩ = some (.int .u8 (zs.getD (off + j) 0)) := fun j hj => digit_b hb (by have := hz.1; omega)
 have c0 := cc 0 (by omega)
 have c1 := cc 1 (by omega)
 have c2 := cc 2 (by omega)
 have c3 := cc 3 (by omega)
 simp only [Nat.add_zero] at c0
 have d0 := hz.2 off
 have d1 := hz.2 (off + 1)
 have d2 := hz.2 (off + 2)
 have d3 := hz.2 (off + 3)
 have HBE := jh (or4q d0 d1 d2 d3)
 have HW : Hid (w4 zs off = zs.getD off 0 + 256 * zs.getD (off + 1) 0 + 65536 * zs.getD (off + 2) 0 + 16777216 * zs.getD (off + 3) 0) := jh rfl
 generalize zs.getD off 0 = x0 at *
 generalize zs.getD (off + 1) 0 = x1 at *
 generalize zs.getD (off + 2) 0 = x2 at *
 generalize zs.getD (off + 3) 0 = x3 at *
 obtain ⟨d00, d01⟩ := d0
 obtain ⟨d10, d11⟩ := d1
 obtain ⟨d20, d21⟩ := d2
 obtain ⟨d30, d31⟩ := d3
 clear cc hb hl hz
 have i0 : (0 : Int) < (len : Int) ∧ (1 : Int) < (len : Int) ∧ (2 : Int) < (len : Int) ∧ (3 : Int) < (len : Int) := by omega
 obtain ⟨i0, i1, i2, i3⟩ := i0
 go_enter Tryz.func107, Tryz.ntmps107
 go_wp2_with fail
 go_region
 go_wp2_with fail
 go_ret
 exact ⟨by rw [HW.out, ← HBE.out]; rfl, rfl⟩
theorem plimbs_any (zs : List Int) (w : World) (hz : D17 zs) :
  Calls Tryz.prog 75 #[.agg (ints .u8 zs).toArray] w fun e w' => e = .returned (.agg (ints .u64 (limL zs)).toArray) ∧ Below w.heap.size w w' := by
 have HZ := jh hz
 have HB := jh (boxes3 w (ints .u8 zs) (ints .u64 (List.replicate 5 0)) (ints .u64 (List.replicate 5 0)) 104 105 105)
 clear hz
 go_enter Tryz.func75, Tryz.ntmps75
 go_upto_region 2 with (fail)
 obtain ⟨H1, H2, H3, HE⟩ := HB.out
 change Code.wp _ _ _ _ (((w.alloc (.cells (ints .u8 zs).toArray 104)).alloc (.cells (ints .u64 (List.replicate 5 0)).toArray 105)).alloc (.cells (ints .u64 (List.replicate 5 0)).toArray 105))
 generalize ((w.alloc (.cells (ints .u8 zs).toArray 104)).alloc (.cells (ints .u64 (List.replicate 5 0)).toArray 105)).alloc (.cells (ints .u64 (List.replicate 5 0)).toArray 105) = wa at *
 obtain ⟨A, hA⟩ : ∃ A, A = w.heap.size := ⟨_, rfl⟩
 have HAW : Hid (w.heap.size ≤ A) := jh (by omega)
 rw [← hA] at H1 H2 H3 ⊢
 have H1 := jh H1
 have H2 := jh H2
 have H3 : Hid (Blk wa (A + 1 + 1) (ints .u64 (lO zs 0)) 105) := jh H3
 have HE : Hid (Ext w wa) := jh HE
 clear hA HB
 go_wp2_with fail
 go_loopw [6] (fun iv wr => ∃ (k : Nat), k ≤ 5 ∧ iv = .int .i64 (k : Int) ∧ Blk wr A (ints .u8 zs) 104 ∧ Blk wr (A + 1) (ints .u64 (List.replicate 5 0)) 105 ∧ Blk wr (A + 1 + 1) (ints .u64 (lO zs k)) 105 ∧ Ext w wr) (fun iv _ => 5 - (intOf iv).toNat)
 case atStart => exact ⟨0, by omega, rfl, H1.out, H2.out, H3.out, HE.out⟩
 case round =>
  clear H1 H2 H3 HE
  obtain ⟨k, hk, rfl, hb1, hb2, hb3, hbel⟩ := hrel
  have k0 : (0 : Int) ≤ (k : Int) := Int.natCast_nonneg _
  have H1 := jh hb1
  have H2 := jh hb2
  have H3 := jh hb3
  have HE := jh hbel
  by_cases hlk : k < 5
  ·have k1 : (k : Int) < 5 := by omega
   obtain ⟨d, hd⟩ : ∃ d, d = 26 * k / 8 := ⟨_, rfl⟩
   obtain ⟨s, hs⟩ : ∃ s, s = 26 * k % 8 := ⟨_, rfl⟩
   have d1 : 26 * (k : Int) / 8 = (d : Int) := by omega
   have d2 : Int.tdiv (26 * (k : Int)) 8 = (d : Int) := by rw [Int.tdiv_eq_ediv_of_nonneg (by omega)]; exact d1
   have s1 : 26 * (k : Int) % 8 = (s : Int) := by omega
   have s2 : Int.tmod (26 * (k : Int)) 8 = (s : Int) := by rw [Int.tmod_eq_emod_of_nonneg (by omega)]; exact s1
   have s3 : (s : Int) < 64 := by omega
   have s4 : (0 : Int) ≤ (s : Int) := by omega
   have hcut := cut_from Tryz.underlying104 Tryz.sizeOf5 wr A d (by omega)
   have HW := jh (pword_any A d (17 - d) (17 - d) zs 104 wr hb1 HZ.out (by omega) (by omega))
   have HS : Hid (lO zs (k + 1) = (lO zs k).set k (w4 zs d / 2 ^ s % 67108864)) := jh (by rw [lO, hd, hs])
   have hwr : 0 ≤ w4 zs d ∧ w4 zs d ≤ 4294967295 := by
    have h0 := HZ.out.2 d
    have h1 := HZ.out.2 (d + 1)
    have h2 := HZ.out.2 (d + 2)
    have h3 := HZ.out.2 (d + 3)
    unfold w4
    omega
   have hdv : 0 ≤ w4 zs d / 2 ^ s ∧ w4 zs d / 2 ^ s ≤ 4294967295 := by
    have hp : (0 : Int) < 2 ^ s := Int.pow_pos (by omega)
    exact ⟨Int.ediv_nonneg hwr.1 (by omega), Int.le_trans (Int.ediv_le_self _ hwr.1) hwr.2⟩
   have m1 := mask26 (w4 zs d / 2 ^ s) hdv.1 (by omega)
   have f1 := hb3.free k
   have q3 := digit_q hb3 (i := k) (by rw [lO_length]; exact hlk)
   generalize (lO zs k).getD k 0 = old at q3
   clear hb1 hb2 hb3 hbel hd hs
   generalize w4 zs d = p at *
   obtain ⟨p0, p1⟩ := hwr
   go_wp2_with fail
   refine HW.out.mono ?_
   rintro e w5 ⟨rfl, rfl⟩
   go_wp2_with fail
   go_roundw
   case rel => exact ⟨k + 1, by omega, by go_num, (H1.out.drewN 1).far (by simp; omega) _, (H2.out.drewN 1).far (by simp) _, by rw [HS.out]; exact (H3.out.drewN 1).seti k _, Below.setCell (HE.out.trans (Ext.drew _)) (by have := HAW.out; simp; omega) _⟩
   case measure => simp [intOf]; omega
  ·have hk5 : k = 5 := by omega
   subst hk5
   clear hb1 hb2 hb3 hbel
   have HL : Hid ((lO zs 5).length = 5) := jh (lO_length zs 5)
   have HR : Hid (limL zs = lO zs 5) := jh rfl
   generalize lO zs 5 = s at *
   have HI : Hid ((Tryz.prog.info? 105).map (·.size) = some (ints .u64 s).length) := jh (zde HL.out)
   have HLz : Hid ((ints .u64 s).length = (ints .u64 (List.replicate 5 0)).length) := jh (by rw [zad, HL.out]; rfl)
   go_wp2_with (first | (refine zab rfl _ _ rfl (A + 1 + 1) rfl _ _ _ _ H3.out Tryz.underlying105 HI.out ?_) | (refine zac rfl _ _ _ rfl (A + 1) (ints .u64 s) rfl rfl _ _ H2.out HLz.out HI.out (zai _ _) ?_; intro w5 hb5 hg5))
   refine bodyPost_ret (zap rfl _ (A + 1) _ _ _ _ rfl hb5 Tryz.underlying105 HI.out) rfl ?_
   exact ⟨by rw [HR.out], zae HE.out hg5 (by have := HAW.out; omega)⟩
theorem carL_len (a b c d e : Int) : (carL [a, b, c, d, e]).length = 5 := rfl
theorem ptimes_any (a b c d e f g h i j : Int) (ba : 0 ≤ a ∧ a ≤ 268435455) (bb : 0 ≤ b ∧ b ≤ 268435455) (bc : 0 ≤ c ∧ c ≤ 268435455) (bd : 0 ≤ d ∧ d ≤ 268435455) (be : 0 ≤ e ∧ e ≤ 268435455)
  (bf : 0 ≤ f ∧ f ≤ 67108863) (bg : 0 ≤ g ∧ g ≤ 67108863) (bh : 0 ≤ h ∧ h ≤ 67108863) (bi : 0 ≤ i ∧ i ≤ 67108863) (bj : 0 ≤ j ∧ j ≤ 67108863) (w : World) :
  Calls Tryz.prog 106 #[.agg (ints .u64 [a, b, c, d, e]).toArray, .agg (ints .u64 [f, g, h, i, j]).toArray] w fun x w' => x = .returned (.agg (ints .u64 (timL [a, b, c, d, e] [f, g, h, i, j])).toArray) ∧ Below w.heap.size w w' := by
 obtain ⟨v2, hv2⟩ : ∃ v, v = 5 * g := ⟨_, rfl⟩
 have bv2 : 0 ≤ v2 ∧ v2 ≤ 335544315 := by omega
 have Wv2 : Hid (IntKind.u64.wrap (5 * g) = v2) := jh (by rw [← hv2, IntKind.wrap_u64]; omega)
 obtain ⟨v5, hv5⟩ : ∃ v, v = 5 * h := ⟨_, rfl⟩
 have bv5 : 0 ≤ v5 ∧ v5 ≤ 335544315 := by omega
 have Wv5 : Hid (IntKind.u64.wrap (5 * h) = v5) := jh (by rw [← hv5, IntKind.wrap_u64]; omega)
 obtain ⟨v8, hv8⟩ : ∃ v, v = 5 * i := ⟨_, rfl⟩
 have bv8 : 0 ≤ v8 ∧ v8 ≤ 335544315 := by omega
 have Wv8 : Hid (IntKind.u64.wrap (5 * i) = v8) := jh (by rw [← hv8, IntKind.wrap_u64]; omega)
 obtain ⟨v11, hv11⟩ : ∃ v, v = 5 * j := ⟨_, rfl⟩
 have bv11 : 0 ≤ v11 ∧ v11 ≤ 335544315 := by omega
 have Wv11 : Hid (IntKind.u64.wrap (5 * j) = v11) := jh (by rw [← hv11, IntKind.wrap_u64]; omega)
 obtain ⟨v20, hv20⟩ : ∃ v, v = a * f := ⟨_, rfl⟩
 have bv20 : 0 ≤ v20 ∧ v20 ≤ 18014398173937665 := by rw [hv20]; have := mulB ba bf; omega
 have Wv20 : Hid (IntKind.u64.wrap (a * f) = v20) := jh (by rw [← hv20, IntKind.wrap_u64]; omega)
 obtain ⟨v24, hv24⟩ : ∃ v, v = b * v11 := ⟨_, rfl⟩
 have bv24 : 0 ≤ v24 ∧ v24 ≤ 90071990869688325 := by rw [hv24]; have := mulB bb bv11; omega
 have Wv24 : Hid (IntKind.u64.wrap (b * v11) = v24) := jh (by rw [← hv24, IntKind.wrap_u64]; omega)
 obtain ⟨v25, hv25⟩ : ∃ v, v = v20 + v24 := ⟨_, rfl⟩
 have bv25 : 0 ≤ v25 ∧ v25 ≤ 108086389043625990 := by omega
 have Wv25 : Hid (IntKind.u64.wrap (v20 + v24) = v25) := jh (by rw [← hv25, IntKind.wrap_u64]; omega)
 obtain ⟨v29, hv29⟩ : ∃ v, v = c * v8 := ⟨_, rfl⟩
 have bv29 : 0 ≤ v29 ∧ v29 ≤ 90071990869688325 := by rw [hv29]; have := mulB bc bv8; omega
 have Wv29 : Hid (IntKind.u64.wrap (c * v8) = v29) := jh (by rw [← hv29, IntKind.wrap_u64]; omega)
 obtain ⟨v30, hv30⟩ : ∃ v, v = v25 + v29 := ⟨_, rfl⟩
 have bv30 : 0 ≤ v30 ∧ v30 ≤ 198158379913314315 := by omega
 have Wv30 : Hid (IntKind.u64.wrap (v25 + v29) = v30) := jh (by rw [← hv30, IntKind.wrap_u64]; omega)
 obtain ⟨v34, hv34⟩ : ∃ v, v = d * v5 := ⟨_, rfl⟩
 have bv34 : 0 ≤ v34 ∧ v34 ≤ 90071990869688325 := by rw [hv34]; have := mulB bd bv5; omega
 have Wv34 : Hid (IntKind.u64.wrap (d * v5) = v34) := jh (by rw [← hv34, IntKind.wrap_u64]; omega)
 obtain ⟨v35, hv35⟩ : ∃ v, v = v30 + v34 := ⟨_, rfl⟩
 have bv35 : 0 ≤ v35 ∧ v35 ≤ 288230370783002640 := by omega
 have Wv35 : Hid (IntKind.u64.wrap (v30 + v34) = v35) := jh (by rw [← hv35, IntKind.wrap_u64]; omega)
 obtain ⟨v39, hv39⟩ : ∃ v, v = e * v2 := ⟨_, rfl⟩
 have bv39 : 0 ≤ v39 ∧ v39 ≤ 90071990869688325 := by rw [hv39]; have := mulB be bv2; omega
 have Wv39 : Hid (IntKind.u64.wrap (e * v2) = v39) := jh (by rw [← hv39, IntKind.wrap_u64]; omega)
 obtain ⟨v40, hv40⟩ : ∃ v, v = v35 + v39 := ⟨_, rfl⟩
 have bv40 : 0 ≤ v40 ∧ v40 ≤ 378302361652690965 := by omega
 have Wv40 : Hid (IntKind.u64.wrap (v35 + v39) = v40) := jh (by rw [← hv40, IntKind.wrap_u64]; omega)
 obtain ⟨v45, hv45⟩ : ∃ v, v = a * g := ⟨_, rfl⟩
 have bv45 : 0 ≤ v45 ∧ v45 ≤ 18014398173937665 := by rw [hv45]; have := mulB ba bg; omega
 have Wv45 : Hid (IntKind.u64.wrap (a * g) = v45) := jh (by rw [← hv45, IntKind.wrap_u64]; omega)
 obtain ⟨v50, hv50⟩ : ∃ v, v = b * f := ⟨_, rfl⟩
 have bv50 : 0 ≤ v50 ∧ v50 ≤ 18014398173937665 := by rw [hv50]; have := mulB bb bf; omega
 have Wv50 : Hid (IntKind.u64.wrap (b * f) = v50) := jh (by rw [← hv50, IntKind.wrap_u64]; omega)
 obtain ⟨v51, hv51⟩ : ∃ v, v = v45 + v50 := ⟨_, rfl⟩
 have bv51 : 0 ≤ v51 ∧ v51 ≤ 36028796347875330 := by omega
 have Wv51 : Hid (IntKind.u64.wrap (v45 + v50) = v51) := jh (by rw [← hv51, IntKind.wrap_u64]; omega)
 obtain ⟨v55, hv55⟩ : ∃ v, v = c * v11 := ⟨_, rfl⟩
 have bv55 : 0 ≤ v55 ∧ v55 ≤ 90071990869688325 := by rw [hv55]; have := mulB bc bv11; omega
 have Wv55 : Hid (IntKind.u64.wrap (c * v11) = v55) := jh (by rw [← hv55, IntKind.wrap_u64]; omega)
 obtain ⟨v56, hv56⟩ : ∃ v, v = v51 + v55 := ⟨_, rfl⟩
 have bv56 : 0 ≤ v56 ∧ v56 ≤ 126100787217563655 := by omega
 have Wv56 : Hid (IntKind.u64.wrap (v51 + v55) = v56) := jh (by rw [← hv56, IntKind.wrap_u64]; omega)
 obtain ⟨v60, hv60⟩ : ∃ v, v = d * v8 := ⟨_, rfl⟩
 have bv60 : 0 ≤ v60 ∧ v60 ≤ 90071990869688325 := by rw [hv60]; have := mulB bd bv8; omega
 have Wv60 : Hid (IntKind.u64.wrap (d * v8) = v60) := jh (by rw [← hv60, IntKind.wrap_u64]; omega)
 obtain ⟨v61, hv61⟩ : ∃ v, v = v56 + v60 := ⟨_, rfl⟩
 have bv61 : 0 ≤ v61 ∧ v61 ≤ 216172778087251980 := by omega
 have Wv61 : Hid (IntKind.u64.wrap (v56 + v60) = v61) := jh (by rw [← hv61, IntKind.wrap_u64]; omega)
 obtain ⟨v65, hv65⟩ : ∃ v, v = e * v5 := ⟨_, rfl⟩
 have bv65 : 0 ≤ v65 ∧ v65 ≤ 90071990869688325 := by rw [hv65]; have := mulB be bv5; omega
 have Wv65 : Hid (IntKind.u64.wrap (e * v5) = v65) := jh (by rw [← hv65, IntKind.wrap_u64]; omega)
 obtain ⟨v66, hv66⟩ : ∃ v, v = v61 + v65 := ⟨_, rfl⟩
 have bv66 : 0 ≤ v66 ∧ v66 ≤ 306244768956940305 := by omega
 have Wv66 : Hid (IntKind.u64.wrap (v61 + v65) = v66) := jh (by rw [← hv66, IntKind.wrap_u64]; omega)
 obtain ⟨v71, hv71⟩ : ∃ v, v = a * h := ⟨_, rfl⟩
 have bv71 : 0 ≤ v71 ∧ v71 ≤ 18014398173937665 := by rw [hv71]; have := mulB ba bh; omega
 have Wv71 : Hid (IntKind.u64.wrap (a * h) = v71) := jh (by rw [← hv71, IntKind.wrap_u64]; omega)
 obtain ⟨v76, hv76⟩ : ∃ v, v = b * g := ⟨_, rfl⟩
 have bv76 : 0 ≤ v76 ∧ v76 ≤ 18014398173937665 := by rw [hv76]; have := mulB bb bg; omega
 have Wv76 : Hid (IntKind.u64.wrap (b * g) = v76) := jh (by rw [← hv76, IntKind.wrap_u64]; omega)
 obtain ⟨v77, hv77⟩ : ∃ v, v = v71 + v76 := ⟨_, rfl⟩
 have bv77 : 0 ≤ v77 ∧ v77 ≤ 36028796347875330 := by omega
 have Wv77 : Hid (IntKind.u64.wrap (v71 + v76) = v77) := jh (by rw [← hv77, IntKind.wrap_u64]; omega)
 obtain ⟨v82, hv82⟩ : ∃ v, v = c * f := ⟨_, rfl⟩
 have bv82 : 0 ≤ v82 ∧ v82 ≤ 18014398173937665 := by rw [hv82]; have := mulB bc bf; omega
 have Wv82 : Hid (IntKind.u64.wrap (c * f) = v82) := jh (by rw [← hv82, IntKind.wrap_u64]; omega)
 obtain ⟨v83, hv83⟩ : ∃ v, v = v77 + v82 := ⟨_, rfl⟩
 have bv83 : 0 ≤ v83 ∧ v83 ≤ 54043194521812995 := by omega
 have Wv83 : Hid (IntKind.u64.wrap (v77 + v82) = v83) := jh (by rw [← hv83, IntKind.wrap_u64]; omega)
 obtain ⟨v87, hv87⟩ : ∃ v, v = d * v11 := ⟨_, rfl⟩
 have bv87 : 0 ≤ v87 ∧ v87 ≤ 90071990869688325 := by rw [hv87]; have := mulB bd bv11; omega
 have Wv87 : Hid (IntKind.u64.wrap (d * v11) = v87) := jh (by rw [← hv87, IntKind.wrap_u64]; omega)
 obtain ⟨v88, hv88⟩ : ∃ v, v = v83 + v87 := ⟨_, rfl⟩
 have bv88 : 0 ≤ v88 ∧ v88 ≤ 144115185391501320 := by omega
 have Wv88 : Hid (IntKind.u64.wrap (v83 + v87) = v88) := jh (by rw [← hv88, IntKind.wrap_u64]; omega)
 obtain ⟨v92, hv92⟩ : ∃ v, v = e * v8 := ⟨_, rfl⟩
 have bv92 : 0 ≤ v92 ∧ v92 ≤ 90071990869688325 := by rw [hv92]; have := mulB be bv8; omega
 have Wv92 : Hid (IntKind.u64.wrap (e * v8) = v92) := jh (by rw [← hv92, IntKind.wrap_u64]; omega)
 obtain ⟨v93, hv93⟩ : ∃ v, v = v88 + v92 := ⟨_, rfl⟩
 have bv93 : 0 ≤ v93 ∧ v93 ≤ 234187176261189645 := by omega
 have Wv93 : Hid (IntKind.u64.wrap (v88 + v92) = v93) := jh (by rw [← hv93, IntKind.wrap_u64]; omega)
 obtain ⟨v98, hv98⟩ : ∃ v, v = a * i := ⟨_, rfl⟩
 have bv98 : 0 ≤ v98 ∧ v98 ≤ 18014398173937665 := by rw [hv98]; have := mulB ba bi; omega
 have Wv98 : Hid (IntKind.u64.wrap (a * i) = v98) := jh (by rw [← hv98, IntKind.wrap_u64]; omega)
 obtain ⟨v103, hv103⟩ : ∃ v, v = b * h := ⟨_, rfl⟩
 have bv103 : 0 ≤ v103 ∧ v103 ≤ 18014398173937665 := by rw [hv103]; have := mulB bb bh; omega
 have Wv103 : Hid (IntKind.u64.wrap (b * h) = v103) := jh (by rw [← hv103, IntKind.wrap_u64]; omega)
 obtain ⟨v104, hv104⟩ : ∃ v, v = v98 + v103 := ⟨_, rfl⟩
 have bv104 : 0 ≤ v104 ∧ v104 ≤ 36028796347875330 := by omega
 have Wv104 : Hid (IntKind.u64.wrap (v98 + v103) = v104) := jh (by rw [← hv104, IntKind.wrap_u64]; omega)
 obtain ⟨v109, hv109⟩ : ∃ v, v = c * g := ⟨_, rfl⟩
 have bv109 : 0 ≤ v109 ∧ v109 ≤ 18014398173937665 := by rw [hv109]; have := mulB bc bg; omega
 have Wv109 : Hid (IntKind.u64.wrap (c * g) = v109) := jh (by rw [← hv109, IntKind.wrap_u64]; omega)
 obtain ⟨v110, hv110⟩ : ∃ v, v = v104 + v109 := ⟨_, rfl⟩
 have bv110 : 0 ≤ v110 ∧ v110 ≤ 54043194521812995 := by omega
 have Wv110 : Hid (IntKind.u64.wrap (v104 + v109) = v110) := jh (by rw [← hv110, IntKind.wrap_u64]; omega)
 obtain ⟨v115, hv115⟩ : ∃ v, v = d * f := ⟨_, rfl⟩
 have bv115 : 0 ≤ v115 ∧ v115 ≤ 18014398173937665 := by rw [hv115]; have := mulB bd bf; omega
 have Wv115 : Hid (IntKind.u64.wrap (d * f) = v115) := jh (by rw [← hv115, IntKind.wrap_u64]; omega)
 obtain ⟨v116, hv116⟩ : ∃ v, v = v110 + v115 := ⟨_, rfl⟩
 have bv116 : 0 ≤ v116 ∧ v116 ≤ 72057592695750660 := by omega
 have Wv116 : Hid (IntKind.u64.wrap (v110 + v115) = v116) := jh (by rw [← hv116, IntKind.wrap_u64]; omega)
 obtain ⟨v120, hv120⟩ : ∃ v, v = e * v11 := ⟨_, rfl⟩
 have bv120 : 0 ≤ v120 ∧ v120 ≤ 90071990869688325 := by rw [hv120]; have := mulB be bv11; omega
 have Wv120 : Hid (IntKind.u64.wrap (e * v11) = v120) := jh (by rw [← hv120, IntKind.wrap_u64]; omega)
 obtain ⟨v121, hv121⟩ : ∃ v, v = v116 + v120 := ⟨_, rfl⟩
 have bv121 : 0 ≤ v121 ∧ v121 ≤ 162129583565438985 := by omega
 have Wv121 : Hid (IntKind.u64.wrap (v116 + v120) = v121) := jh (by rw [← hv121, IntKind.wrap_u64]; omega)
 obtain ⟨v126, hv126⟩ : ∃ v, v = a * j := ⟨_, rfl⟩
 have bv126 : 0 ≤ v126 ∧ v126 ≤ 18014398173937665 := by rw [hv126]; have := mulB ba bj; omega
 have Wv126 : Hid (IntKind.u64.wrap (a * j) = v126) := jh (by rw [← hv126, IntKind.wrap_u64]; omega)
 obtain ⟨v131, hv131⟩ : ∃ v, v = b * i := ⟨_, rfl⟩
 have bv131 : 0 ≤ v131 ∧ v131 ≤ 18014398173937665 := by rw [hv131]; have := mulB bb bi; omega
 have Wv131 : Hid (IntKind.u64.wrap (b * i) = v131) := jh (by rw [← hv131, IntKind.wrap_u64]; omega)
 obtain ⟨v132, hv132⟩ : ∃ v, v = v126 + v131 := ⟨_, rfl⟩
 have bv132 : 0 ≤ v132 ∧ v132 ≤ 36028796347875330 := by omega
 have Wv132 : Hid (IntKind.u64.wrap (v126 + v131) = v132) := jh (by rw [← hv132, IntKind.wrap_u64]; omega)
 obtain ⟨v137, hv137⟩ : ∃ v, v = c * h := ⟨_, rfl⟩
 have bv137 : 0 ≤ v137 ∧ v137 ≤ 18014398173937665 := by rw [hv137]; have := mulB bc bh; omega
 have Wv137 : Hid (IntKind.u64.wrap (c * h) = v137) := jh (by rw [← hv137, IntKind.wrap_u64]; omega)
 obtain ⟨v138, hv138⟩ : ∃ v, v = v132 + v137 := ⟨_, rfl⟩
 have bv138 : 0 ≤ v138 ∧ v138 ≤ 54043194521812995 := by omega
 have Wv138 : Hid (IntKind.u64.wrap (v132 + v137) = v138) := jh (by rw [← hv138, IntKind.wrap_u64]; omega)
 obtain ⟨v143, hv143⟩ : ∃ v, v = d * g := ⟨_, rfl⟩
 have bv143 : 0 ≤ v143 ∧ v143 ≤ 18014398173937665 := by rw [hv143]; have := mulB bd bg; omega
 have Wv143 : Hid (IntKind.u64.wrap (d * g) = v143) := jh (by rw [← hv143, IntKind.wrap_u64]; omega)
 obtain ⟨v144, hv144⟩ : ∃ v, v = v138 + v143 := ⟨_, rfl⟩
 have bv144 : 0 ≤ v144 ∧ v144 ≤ 72057592695750660 := by omega
 have Wv144 : Hid (IntKind.u64.wrap (v138 + v143) = v144) := jh (by rw [← hv144, IntKind.wrap_u64]; omega)
 obtain ⟨v149, hv149⟩ : ∃ v, v = e * f := ⟨_, rfl⟩
 have bv149 : 0 ≤ v149 ∧ v149 ≤ 18014398173937665 := by rw [hv149]; have := mulB be bf; omega
 have Wv149 : Hid (IntKind.u64.wrap (e * f) = v149) := jh (by rw [← hv149, IntKind.wrap_u64]; omega)
 obtain ⟨v150, hv150⟩ : ∃ v, v = v144 + v149 := ⟨_, rfl⟩
 have bv150 : 0 ≤ v150 ∧ v150 ≤ 90071990869688325 := by omega
 have Wv150 : Hid (IntKind.u64.wrap (v144 + v149) = v150) := jh (by rw [← hv150, IntKind.wrap_u64]; omega)
 have HT : Hid (timL [a, b, c, d, e] [f, g, h, i, j] = carL [v40, v66, v93, v121, v150]) := jh (by subst hv150 hv149 hv144 hv143 hv138 hv137 hv132 hv131 hv126 hv121 hv120 hv116 hv115 hv110 hv109 hv104 hv103 hv98 hv93 hv92 hv88 hv87 hv83 hv82 hv77 hv76 hv71 hv66 hv65 hv61 hv60 hv56 hv55 hv51 hv50 hv45 hv40 hv39 hv35 hv34 hv30 hv29 hv25 hv24 hv20 hv11 hv8 hv5 hv2; rfl)
 have HC := jh (pcarried_any v40 v66 v93 v121 v150 (by omega) (by omega) (by omega) (by omega) (by omega))
 have HLn := jh (carL_len v40 v66 v93 v121 v150)
 rw [HT.out]
 generalize carL [v40, v66, v93, v121, v150] = C at *
 have HB := jh (boxes3 w (ints .u64 [a, b, c, d, e]) (ints .u64 [f, g, h, i, j]) (ints .u64 [0, 0, 0, 0, 0]) 105 105 105)
 clear ba bb bc bd be bf bg bh bi bj HT hv2 bv2 hv5 bv5 hv8 bv8 hv11 bv11 hv20 bv20 hv24 bv24 hv25 bv25 hv29 bv29 hv30 bv30 hv34 bv34 hv35 bv35 hv39 bv39 hv40 bv40 hv45 bv45 hv50 bv50 hv51 bv51 hv55 bv55 hv56 bv56 hv60 bv60 hv61 bv61 hv65 bv65 hv66 bv66 hv71 bv71 hv76 bv76 hv77 bv77 hv82 bv82 hv83 bv83 hv87 bv87 hv88 bv88 hv92 bv92 hv93 bv93 hv98 bv98 hv103 bv103 hv104 bv104 hv109 bv109 hv110 bv110 hv115 bv115 hv116 bv116 hv120 bv120 hv121 bv121 hv126 bv126 hv131 bv131 hv132 bv132 hv137 bv137 hv138 bv138 hv143 bv143 hv144 bv144 hv149 bv149 hv150 bv150
 go_enter Tryz.func106, Tryz.ntmps106
 go_upto_region 1 with (fail)
 obtain ⟨H1, H2, H3, HE⟩ := HB.out
 change Code.wp _ _ _ _ (((w.alloc (.cells (ints .u64 [a, b, c, d, e]).toArray 105)).alloc (.cells (ints .u64 [f, g, h, i, j]).toArray 105)).alloc (.cells (ints .u64 [0, 0, 0, 0, 0]).toArray 105))
 generalize ((w.alloc (.cells (ints .u64 [a, b, c, d, e]).toArray 105)).alloc (.cells (ints .u64 [f, g, h, i, j]).toArray 105)).alloc (.cells (ints .u64 [0, 0, 0, 0, 0]).toArray 105) = wa at *
 obtain ⟨A, hA⟩ : ∃ A, A = w.heap.size := ⟨_, rfl⟩
 have HAW : Hid (w.heap.size ≤ A) := jh (by omega)
 rw [← hA] at H1 H2 H3 ⊢
 have H1 := jh H1
 have H2 := jh H2
 have H3 := jh H3
 have HE : Hid (Ext w wa) := jh HE
 clear hA HB
 refine zal 16 0 16 rfl (by kernel_rfl) (by kernel_rfl) (fun d v c a w h => by cases d <;> exact h) (by kernel_rfl) ?_
 refine zak _ _ _ _ (A + 1) 5 1 (by rfl) rfl rfl rfl Tryz.underlying105 (by omega) (Tryz.sizeOf88) ?_
 simp only [Act.put, nrm]
 refine zao _ _ (A + 1) 1 (.int .u64 g) (by rfl) rfl rfl (fun w hw => (zaa H2.out hw).cell 1) (Tryz.isAgg88) ?_
 simp only [Act.put, nrm]
 refine det_mul _ _ _ _ _ _ _ v2 (by rfl) rfl rfl rfl Wv2.out ?_
 simp only [Act.put, nrm]
 refine zak _ _ _ _ (A + 1) 5 2 (by rfl) rfl rfl rfl Tryz.underlying105 (by omega) (Tryz.sizeOf88) ?_
 simp only [Act.put, nrm]
 refine zao _ _ (A + 1) 2 (.int .u64 h) (by rfl) rfl rfl (fun w hw => (zaa H2.out hw).cell 2) (Tryz.isAgg88) ?_
 simp only [Act.put, nrm]
 refine det_mul _ _ _ _ _ _ _ v5 (by rfl) rfl rfl rfl Wv5.out ?_
 simp only [Act.put, nrm]
 refine zak _ _ _ _ (A + 1) 5 3 (by rfl) rfl rfl rfl Tryz.underlying105 (by omega) (Tryz.sizeOf88) ?_
 simp only [Act.put, nrm]
 refine zao _ _ (A + 1) 3 (.int .u64 i) (by rfl) rfl rfl (fun w hw => (zaa H2.out hw).cell 3) (Tryz.isAgg88) ?_
 simp only [Act.put, nrm]
 refine det_mul _ _ _ _ _ _ _ v8 (by rfl) rfl rfl rfl Wv8.out ?_
 simp only [Act.put, nrm]
 refine zak _ _ _ _ (A + 1) 5 4 (by rfl) rfl rfl rfl Tryz.underlying105 (by omega) (Tryz.sizeOf88) ?_
 simp only [Act.put, nrm]
 refine zao _ _ (A + 1) 4 (.int .u64 j) (by rfl) rfl rfl (fun w hw => (zaa H2.out hw).cell 4) (Tryz.isAgg88) ?_
 simp only [Act.put, nrm]
 refine det_mul _ _ _ _ _ _ _ v11 (by rfl) rfl rfl rfl Wv11.out ?_
 simp only [Act.put, nrm]
 refine zbi _ (.int .u64 v2) (by rfl) rfl rfl ?_
 simp only [Act.put, nrm]
 refine zbi _ (.int .u64 v5) (by rfl) rfl rfl ?_
 simp only [Act.put, nrm]
 refine zbi _ (.int .u64 v8) (by rfl) rfl rfl ?_
 simp only [Act.put, nrm]
 refine zbi _ (.int .u64 v11) (by rfl) rfl rfl ?_
 simp only [Act.put, nrm]
 refine zbg (end_none (by kernel_rfl) (fun w1 hw1 => ?_))
 have H1 := jh (zaa H1.out hw1)
 have H2 := jh (zaa H2.out hw1)
 have H3 := jh (zaa H3.out hw1)
 have HE := jh (HE.out.trans hw1)
 clear hw1
 have qx0 := H1.out.cell 0
 have qy0 := H2.out.cell 0
 have qx1 := H1.out.cell 1
 have qy1 := H2.out.cell 1
 have qx2 := H1.out.cell 2
 have qy2 := H2.out.cell 2
 have qx3 := H1.out.cell 3
 have qy3 := H2.out.cell 3
 have qx4 := H1.out.cell 4
 have qy4 := H2.out.cell 4
 simp only [ints, List.map_cons, List.map_nil, List.getElem?_cons_zero, List.getElem?_cons_succ] at qx0 qy0 qx1 qy1 qx2 qy2 qx3 qy3 qx4 qy4
 have Tv20 := Wv20.out
 have Uv20 := Tv20
 rw [IntKind.wrap_u64] at Uv20
 have Tv24 := Wv24.out
 have Uv24 := Tv24
 rw [IntKind.wrap_u64] at Uv24
 have Tv25 := Wv25.out
 have Uv25 := Tv25
 rw [IntKind.wrap_u64] at Uv25
 have Tv29 := Wv29.out
 have Uv29 := Tv29
 rw [IntKind.wrap_u64] at Uv29
 have Tv30 := Wv30.out
 have Uv30 := Tv30
 rw [IntKind.wrap_u64] at Uv30
 have Tv34 := Wv34.out
 have Uv34 := Tv34
 rw [IntKind.wrap_u64] at Uv34
 have Tv35 := Wv35.out
 have Uv35 := Tv35
 rw [IntKind.wrap_u64] at Uv35
 have Tv39 := Wv39.out
 have Uv39 := Tv39
 rw [IntKind.wrap_u64] at Uv39
 have Tv40 := Wv40.out
 have Uv40 := Tv40
 rw [IntKind.wrap_u64] at Uv40
 have Tv45 := Wv45.out
 have Uv45 := Tv45
 rw [IntKind.wrap_u64] at Uv45
 have Tv50 := Wv50.out
 have Uv50 := Tv50
 rw [IntKind.wrap_u64] at Uv50
 have Tv51 := Wv51.out
 have Uv51 := Tv51
 rw [IntKind.wrap_u64] at Uv51
 have Tv55 := Wv55.out
 have Uv55 := Tv55
 rw [IntKind.wrap_u64] at Uv55
 have Tv56 := Wv56.out
 have Uv56 := Tv56
 rw [IntKind.wrap_u64] at Uv56
 have Tv60 := Wv60.out
 have Uv60 := Tv60
 rw [IntKind.wrap_u64] at Uv60
 have Tv61 := Wv61.out
 have Uv61 := Tv61
 rw [IntKind.wrap_u64] at Uv61
 have Tv65 := Wv65.out
 have Uv65 := Tv65
 rw [IntKind.wrap_u64] at Uv65
 have Tv66 := Wv66.out
 have Uv66 := Tv66
 rw [IntKind.wrap_u64] at Uv66
 have Tv71 := Wv71.out
 have Uv71 := Tv71
 rw [IntKind.wrap_u64] at Uv71
 have Tv76 := Wv76.out
 have Uv76 := Tv76
 rw [IntKind.wrap_u64] at Uv76
 have Tv77 := Wv77.out
 have Uv77 := Tv77
 rw [IntKind.wrap_u64] at Uv77
 have Tv82 := Wv82.out
 have Uv82 := Tv82
 rw [IntKind.wrap_u64] at Uv82
 have Tv83 := Wv83.out
 have Uv83 := Tv83
 rw [IntKind.wrap_u64] at Uv83
 have Tv87 := Wv87.out
 have Uv87 := Tv87
 rw [IntKind.wrap_u64] at Uv87
 have Tv88 := Wv88.out
 have Uv88 := Tv88
 rw [IntKind.wrap_u64] at Uv88
 have Tv92 := Wv92.out
 have Uv92 := Tv92
 rw [IntKind.wrap_u64] at Uv92
 have Tv93 := Wv93.out
 have Uv93 := Tv93
 rw [IntKind.wrap_u64] at Uv93
 have Tv98 := Wv98.out
 have Uv98 := Tv98
 rw [IntKind.wrap_u64] at Uv98
 have Tv103 := Wv103.out
 have Uv103 := Tv103
 rw [IntKind.wrap_u64] at Uv103
 have Tv104 := Wv104.out
 have Uv104 := Tv104
 rw [IntKind.wrap_u64] at Uv104
 have Tv109 := Wv109.out
 have Uv109 := Tv109
 rw [IntKind.wrap_u64] at Uv109
 have Tv110 := Wv110.out
 have Uv110 := Tv110
 rw [IntKind.wrap_u64] at Uv110
 have Tv115 := Wv115.out
 have Uv115 := Tv115
 rw [IntKind.wrap_u64] at Uv115
 have Tv116 := Wv116.out
 have Uv116 := Tv116
 rw [IntKind.wrap_u64] at Uv116
 have Tv120 := Wv120.out
 have Uv120 := Tv120
 rw [IntKind.wrap_u64] at Uv120
 have Tv121 := Wv121.out
 have Uv121 := Tv121
 rw [IntKind.wrap_u64] at Uv121
 have Tv126 := Wv126.out
 have Uv126 := Tv126
 rw [IntKind.wrap_u64] at Uv126
 have Tv131 := Wv131.out
 have Uv131 := Tv131
 rw [IntKind.wrap_u64] at Uv131
 have Tv132 := Wv132.out
 have Uv132 := Tv132
 rw [IntKind.wrap_u64] at Uv132
 have Tv137 := Wv137.out
 have Uv137 := Tv137
 rw [IntKind.wrap_u64] at Uv137
 have Tv138 := Wv138.out
 have Uv138 := Tv138
 rw [IntKind.wrap_u64] at Uv138
 have Tv143 := Wv143.out
 have Uv143 := Tv143
 rw [IntKind.wrap_u64] at Uv143
 have Tv144 := Wv144.out
 have Uv144 := Tv144
 rw [IntKind.wrap_u64] at Uv144
 have Tv149 := Wv149.out
 have Uv149 := Tv149
 rw [IntKind.wrap_u64] at Uv149
 have Tv150 := Wv150.out
 have Uv150 := Tv150
 rw [IntKind.wrap_u64] at Uv150
 go_wp2_with fail
 refine (HC.out _).mono ?_
 rintro x w2 ⟨rfl, hb⟩
 have H3 := jh (zaa H3.out hb)
 have HE := jh (HE.out.trans hb)
 clear hb
 have HI : Hid ((Tryz.prog.info? 105).map (·.size) = some (ints .u64 C).length) := jh (zde HLn.out)
 have HLz : Hid ((ints .u64 C).length = (ints .u64 [0, 0, 0, 0, 0]).length) := jh (by rw [zad, HLn.out]; rfl)
 go_wp2_with (refine zac rfl _ _ _ rfl (A + 1 + 1) (ints .u64 C) rfl rfl _ _ H3.out HLz.out HI.out (zai _ _) ?_; intro w5 hb5 hg5)
 refine bodyPost_ret (zap rfl _ (A + 1 + 1) _ _ _ _ rfl hb5 Tryz.underlying105 HI.out) rfl ?_
 exact ⟨rfl, zae HE.out hg5 (by have := HAW.out; omega)⟩
theorem cut_end {P : Program} {t : TypeId} {n : Nat} {e : TypeId} (ht : P.underlying t = some (.array n e)) (h : ∀ w, (sizeOf e).run P w = .ok 1 w) (w : World) (A p : Nat) (hp : p ≤ n) :
  ∃ o, o + (n - p) ≤ n ∧ (p < n → o = p) ∧ (Instr.sliceAt t (.pointer (some ⟨A, 0, none⟩)) (some (.int .i64 (p : Int))) none none).run P w = .ok (.slice (some ⟨A, o, none⟩) (n - p) (n - p)) w := by
 have e1 : P.arrayLen t = n := by unfold Program.arrayLen; rw [ht]
 have e2 : P.elem t = e := by unfold Program.elem; rw [ht]
 have hr := run_sliceAt_array_l w t ⟨A, 0, none⟩ (by rw [e1, e2]; exact ht) .i64 (p : Int) (by omega) (by rw [e1]; omega)
 rw [e2, h, e1] at hr
 by_cases hpn : n = p
 ·refine ⟨0, by omega, by omega, ?_⟩
  rw [hr]
  simp [slicedAt, hpn]
 ·refine ⟨p, by omega, fun _ => rfl, ?_⟩
  rw [hr]
  simp [slicedAt, Addr.add, hpn]
  exact fun h => h.symm
theorem laid_one (c l : List UInt8) (f o : Nat) (hf : c.length = f) (h16 : f ≤ 16) (hl : l.length = 17) (ho : f + 1 < 17 → o = f + 1) :
  laid (((c ++ l.drop f).map bval).set f (.int .u8 1)) o (List.replicate (16 - f) (.int .u8 0)) = (onB c).map bval := by
 have e0 : (Value.int .u8 1) = bval 1 := rfl
 have e1 : (c ++ l.drop f).set f 1 = c ++ [1] ++ l.drop (f + 1) := by
  rw [List.set_append_right _ _ (by omega), hf, Nat.sub_self, List.append_assoc]
  congr 1
  rw [List.drop_eq_getElem_cons (by omega), List.set_cons_zero]
  rfl
 have e2 : (List.replicate (16 - f) (Value.int .u8 0)) = (List.replicate (16 - f) (0 : UInt8)).map bval := by rw [List.map_replicate]; rfl
 rw [e0, ← List.map_set, e1, e2]
 unfold onB
 rw [hf]
 by_cases h : f + 1 < 17
 ·rw [ho h, List.map_append]
  have h3 : f + 1 = ((c ++ [1]).map bval).length := by simp; omega
  have h4 := laid_append ((List.replicate (16 - f) (0 : UInt8)).map bval) ((c ++ [1]).map bval) ((l.drop (f + 1)).map bval) (by simp; omega)
  rw [← h3] at h4
  rw [h4, ← List.map_append]
  simp
 ·have h3 : f = 16 := by omega
  subst h3
  simp [laid, hl]
theorem fL_near {R : List Int} (hR : Lim 67108863 R) (m : List UInt8) : ∀ n, Near (fL R m n)
 | 0 => Near.zero
 | n + 1 => by
  have a := addL_val (fL_near hR m n).lim (blk_lim m n).1
  exact (timL_val (a.1.up (by omega)) hR).1
theorem ptimesL_any {x y : List Int} (hx : Lim 268435455 x) (hy : Lim 67108863 y) (w : World) :
  Calls Tryz.prog 106 #[.agg (ints .u64 x).toArray, .agg (ints .u64 y).toArray] w fun e w' => e = .returned (.agg (ints .u64 (timL x y)).toArray) ∧ Below w.heap.size w w' := by
 obtain ⟨a, b, c, d, e, rfl, h1, h2, h3, h4, h5⟩ := hx
 obtain ⟨f, g, h, i, j, rfl, k1, k2, k3, k4, k5⟩ := hy
 exact ptimes_any a b c d e f g h i j h1 h2 h3 h4 h5 k1 k2 k3 k4 k5 w
theorem rowB_any {w : World} {v : Value} {ls : List (List UInt8)} (h : RowB w v ls) : ∃ a cap, v = .slice a ls.length cap := by
 obtain ⟨a, cap, rfl, _⟩ := rowB_form h
 exact ⟨a, cap, rfl⟩
structure PlySt (w0 w : World) (A B : Nat) (R : List Int) (m : List UInt8) (n : Nat) (c l : List UInt8) : Prop where
 all : l.length = 17
 piece : c = (m.drop (16 * n)).take 16
 few : n ≤ (m.length + 15) / 16
 msg : MsgSt w0 w A ((m.drop (16 * n)).drop 16)
 blkR : Blk w (A + 1) (ints .u64 R) 105
 blkZ : Blk w (A + 1 + 1) (ints .u64 (List.replicate 5 0)) 105
 blkS : Blk w (A + 1 + 1 + 1) (ints .u64 (fL R m n)) 105
 blkX : Blk w B ((c ++ l.drop c.length).map bval) 104
theorem pfolded_any (v : Value) (ls : List (List UInt8)) (R : List Int) (w0 w : World) (hv : RowB w0 v ls) (he0 : Ext w0 w) (hR : Lim 67108863 R) (hm : ls.flatten.length ≤ 1099511627776) :
  Calls Tryz.prog 73 #[.agg #[.slice none 0 0, v], .agg (ints .u64 R).toArray] w fun e w' => e = .returned (.agg (ints .u64 (fL R ls.flatten ((ls.flatten.length + 15) / 16))).toArray) ∧ Below w.heap.size w w' := by
 obtain ⟨a, cap, rfl⟩ := rowB_any hv
 obtain ⟨m, hmm⟩ : ∃ m, m = ls.flatten := ⟨_, rfl⟩
 rw [← hmm] at hm ⊢
 have HMD := jh hmm
 have HRB := jh hv
 have HE0 := jh he0
 have HR := jh hR
 have HML := jh hm
 have HB := jh (boxes4 w [.slice none 0 0, .slice a ls.length cap] (ints .u64 R) (ints .u64 (List.replicate 5 0)) (ints .u64 (List.replicate 5 0)) 108 105 105 105)
 clear hmm hv he0 hR hm
 go_enter Tryz.func73, Tryz.ntmps73
 go_upto_region 2 with (fail)
 obtain ⟨H1, H2, H3, H4, HE⟩ := HB.out
 change Code.wp _ _ _ _ ((((w.alloc (.cells #[.slice none 0 0, .slice a ls.length cap] 108)).alloc (.cells (ints .u64 R).toArray 105)).alloc (.cells (ints .u64 (List.replicate 5 0)).toArray 105)).alloc (.cells (ints .u64 (List.replicate 5 0)).toArray 105))
 change Blk ((((w.alloc (.cells #[.slice none 0 0, .slice a ls.length cap] 108)).alloc (.cells (ints .u64 R).toArray 105)).alloc (.cells (ints .u64 (List.replicate 5 0)).toArray 105)).alloc (.cells (ints .u64 (List.replicate 5 0)).toArray 105)) w.heap.size [.slice none 0 0, .slice a ls.length cap] 108 at H1
 generalize (((w.alloc (.cells #[.slice none 0 0, .slice a ls.length cap] 108)).alloc (.cells (ints .u64 R).toArray 105)).alloc (.cells (ints .u64 (List.replicate 5 0)).toArray 105)).alloc (.cells (ints .u64 (List.replicate 5 0)).toArray 105) = wa at *
 obtain ⟨A, hA⟩ : ∃ A, A = w.heap.size := ⟨_, rfl⟩
 have HAW : Hid (w.heap.size ≤ A) := jh (by omega)
 have HAW0 : Hid (w0.heap.size ≤ A) := jh (by rw [hA]; exact HE0.out.size)
 rw [← hA] at H1 H2 H3 H4 ⊢
 have HM : Hid (MsgSt w0 wa A m) := jh ⟨_, _, [], ls, H1, Row1.nil w0, HRB.out, by rw [HMD.out]; simp⟩
 have H2 := jh H2
 have H3 := jh H3
 have H4 : Hid (Blk wa (A + 1 + 1 + 1) (ints .u64 (fL R m 0)) 105) := jh H4
 have HE : Hid (Ext w wa) := jh HE
 clear hA HB H1
 have HXA := Ext.alloc wa (.cells (ints .u8 (List.replicate 17 0)).toArray 104)
 obtain ⟨B, hB⟩ : ∃ B, B = wa.heap.size := ⟨_, rfl⟩
 have HAB : Hid (A + 1 + 1 + 1 < B) := jh (by have := H4.out.lt; omega)
 have HO : Hid (Blk (wa.alloc (.cells (ints .u8 (List.replicate 17 0)).toArray 104)) B ((List.replicate 17 (0 : UInt8)).map bval) 104) := jh (by rw [hB]; exact Blk.made wa (ints .u8 (List.replicate 17 0)) 104)
 have HM := jh (HM.out.same (heap_alloc_old wa (.cells (ints .u8 (List.replicate 17 0)).toArray 104) HM.out.lt))
 have H2 := jh (zaa H2.out HXA)
 have H3 := jh (zaa H3.out HXA)
 have H4 := jh (zaa H4.out HXA)
 have HE := jh (HE.out.trans HXA)
 clear HXA
 go_upto_region 3 with (fail)
 change Code.wp _ _ _ _ (wa.alloc (.cells (ints .u8 (List.replicate 17 0)).toArray 104))
 rw [← hB]
 clear hB
 generalize wa.alloc (.cells (ints .u8 (List.replicate 17 0)).toArray 104) = wb at *
 have HF := jh (fill_cap w0 wb A B 16 17 m (List.replicate 17 0) 104 HM.out HO.out rfl (by omega) (by omega) (by omega) (HE0.out.trans HE.out) HAW0.out (by have := HAB.out; omega))
 clear HM HO
 go_wp2_with fail
 refine HF.out.mono ?_
 rintro e w7 ⟨hf, hbut⟩
 unfold FillSaid at hf
 obtain ⟨c, hc, rfl, hM, hO, hbel⟩ := hf
 have HE7 : Hid (Ext w w7) := jh (Below.trans HE.out (hbel.mono HAW.out))
 have HST : Hid (PlySt w0 w7 A B R m 0 c (List.replicate 17 0)) := jh ⟨rfl, hc, by omega, hM, H2.out.same (hbut (A + 1) (by have := HAB.out; omega) (by omega)), H3.out.same (hbut (A + 1 + 1) (by have := HAB.out; omega) (by omega)), H4.out.same (hbut (A + 1 + 1 + 1) (by have := HAB.out; omega) (by omega)), hO⟩
 clear H2 H3 H4 HE hc hM hO hbel hbut HF
 go_wp2_with fail
 go_loopg [7] (m.length + 16) (fun gk i7 wr => ∃ (n : Nat) (c l : List UInt8), gk = m.length + 16 - n ∧ i7 = .int .i64 (c.length : Int) ∧ PlySt w0 wr A B R m n c l ∧ Ext w wr)
 case atStart => exact ⟨0, c, List.replicate 17 0, rfl, rfl, HST.out, HE7.out⟩
 case round =>
  clear HST HE7
  obtain ⟨n, c, l, hgk, rfl, hst, hbel⟩ := hrel
  have c0 : (0 : Int) ≤ (c.length : Int) := Int.natCast_nonneg _
  have hc16 : c.length ≤ 16 := by rw [hst.piece, List.length_take]; omega
  have hcl : c.length = min 16 (m.length - 16 * n) := by rw [hst.piece, piece_len]
  have HGK := jh hgk
  have HCL := jh hcl
  have HST := jh hst
  have HE := jh hbel
  clear hgk hst hbel hcl
  obtain ⟨f, hf⟩ : ∃ f, f = c.length := ⟨_, rfl⟩
  have HFE := jh hf
  rw [← hf] at c0 hc16 ⊢
  clear hf
  by_cases hpos : 0 < f
  ·have g1 : (0 : Int) < (f : Int) := by omega
   have g2 : (f : Int) < 17 := by omega
   have g3 : (f : Int) + 1 ≤ 17 := by omega
   have HXL : Hid ((c ++ l.drop c.length).length = 17) := jh (by rw [List.length_append, List.length_drop, HST.out.all, ← HFE.out]; omega)
   have q0 : wr.cell? ⟨B, f, none⟩ = some (.int .u8 (((c ++ l.drop c.length).getD f 0).toNat : Int)) := by rw [HST.out.blkX.cell, zbb (by rw [HXL.out]; omega)]
   have f0 := HST.out.blkX.free f
   have HB3 := jh (HST.out.blkX.set f (.int .u8 1))
   generalize (((c ++ l.drop c.length).getD f 0).toNat : Int) = z0 at *
   obtain ⟨o, ho1, ho2, hs⟩ := cut_end Tryz.underlying104 Tryz.sizeOf5 (wr.setCell ⟨B, f, none⟩ (.int .u8 1)) B (f + 1) (by omega)
   have ef : ((f + 1 : Nat) : Int) = (f : Int) + 1 := by omega
   rw [ef] at hs
   have hcl := run_clear_bytes (ty := 0) Tryz.underlying25 Tryz.zeroValue5 B o (16 - f) (16 - f) _ _ HB3.out (by have := HXL.out; simp; simp at this; omega)
   have HLL := jh (laid_one c l f o HFE.out.symm hc16 HST.out.all ho2)
   clear ho1 ho2 ef
   go_upto_region 8 with (fail)
   have HX := Blk.setCells (List.replicate (16 - f) (.int .u8 0)) _ o _ HB3.out
   rw [← HFE.out, HLL.out, bval_ints] at HX
   have hg : wr.grownBy ((wr.setCell ⟨B, f, none⟩ (.int .u8 1)).setCells B o (List.replicate (16 - f) (.int .u8 0))) (some B) := zcl _ _ _ _ (zbh (zdc wr _) _ _)
   have HR2 := jh (HST.out.blkR.grown hg (by have := HAB.out; simp; omega))
   have HZ2 := jh (HST.out.blkZ.grown hg (by have := HAB.out; simp; omega))
   have HS2 := jh (HST.out.blkS.grown hg (by have := HAB.out; simp; omega))
   have HM2 := jh (HST.out.msg.same (hg.block A HST.out.msg.lt (by have := HAB.out; simp; omega)))
   have HE := jh (zae HE.out hg (by have := HAB.out; have := HAW.out; omega))
   have HX := jh HX
   generalize (wr.setCell ⟨B, f, none⟩ (.int .u8 1)).setCells B o (List.replicate (16 - f) (.int .u8 0)) = w4 at *
   clear hg HB3 HLL hcl hs q0 f0
   have HC : Hid (c = (m.drop (16 * n)).take 16) := jh HST.out.piece
   have HF1 : Hid (fL R m (n + 1) = timL (addL (fL R m n) (limL (iB (onB c)))) R) := jh (by rw [HC.out, fL])
   have HNE := jh (fL_near HR.out m n)
   have HD : Hid (D17 (iB (onB c))) := jh (D17_iB (onB_length (by rw [← HFE.out]; exact hc16)))
   have HOL : Hid ((onB c).length = 17) := jh (onB_length (by rw [← HFE.out]; exact hc16))
   have hlm := limL_val HD.out
   have hal := addL_val HNE.out.lim hlm.1
   have HLM := jh hlm.1
   have HAL := jh (hal.1.up (N := 268435455) (by omega))
   have HFL := jh HST.out.few
   have HLA := jh HST.out.all
   clear hlm hal
   have HT1 : Hid ((timL (addL (fL R m n) (limL (iB (onB c)))) R).length = 5) := jh (by rw [← HF1.out]; exact (fL_near HR.out m (n + 1)).lim.len)
   obtain ⟨x, hx⟩ : ∃ x, x = iB (onB c) := ⟨_, rfl⟩
   rw [← hx] at HX HF1 HD HLM HAL HT1
   obtain ⟨s, hs⟩ : ∃ s, s = fL R m n := ⟨_, rfl⟩
   rw [← hs] at HS2 HF1 HNE HAL HT1
   obtain ⟨y, hy⟩ : ∃ y, y = limL x := ⟨_, rfl⟩
   rw [← hy] at HF1 HLM HAL HT1
   obtain ⟨p, hp⟩ : ∃ p, p = addL s y := ⟨_, rfl⟩
   rw [← hp] at HF1 HAL HT1
   obtain ⟨u, hu⟩ : ∃ u, u = timL p R := ⟨_, rfl⟩
   rw [← hu] at HF1 HT1
   have HC1 : Hid (∀ w, Calls Tryz.prog 75 #[.agg (ints .u8 x).toArray] w fun e w' => e = .returned (.agg (ints .u64 y).toArray) ∧ Below w.heap.size w w') := jh (fun w => by rw [hy]; exact plimbs_any x w HD.out)
   have HC2 : Hid (∀ w, Calls Tryz.prog 79 #[.agg (ints .u64 s).toArray, .agg (ints .u64 y).toArray] w fun e w' => e = .returned (.agg (ints .u64 p).toArray) ∧ Below w.heap.size w w') := jh (fun w => by rw [hp]; exact pplus_any s y w (HNE.out.lim.up (by omega)) (HLM.out.up (by omega)))
   have HC3 : Hid (∀ w, Calls Tryz.prog 106 #[.agg (ints .u64 p).toArray, .agg (ints .u64 R).toArray] w fun e w' => e = .returned (.agg (ints .u64 u).toArray) ∧ Below w.heap.size w w') := jh (fun w => by rw [hu]; exact ptimesL_any HAL.out HR.out w)
   have HIs := jh (zde HNE.out.lim.len)
   have HIx := jh (blk_size17 HD.out.1)
   have HIR := jh (zde HR.out.len)
   have HIu := jh (zde HT1.out)
   have HLu : Hid ((ints .u64 u).length = (ints .u64 s).length) := jh (by rw [zad, zad, HT1.out, HNE.out.lim.len])
   have HSE := jh hs
   have HXE := jh hx
   clear hs hx hy hp hu
   refine zal 6 1 6 rfl (by kernel_rfl) (by kernel_rfl) (fun d v c a w h => by cases d <;> exact h) (by kernel_rfl) ?_
   refine zbp _ _ (A + 1 + 1 + 1) (ints .u64 s) _ (by rfl) rfl rfl (fun w hw => zbj HS2.out hw) Tryz.underlying105 rfl HIs.out ?_
   simp only [Act.put, nrm]
   refine zbp _ _ B (ints .u8 x) _ (by rfl) rfl rfl (fun w hw => zbj HX.out hw) Tryz.underlying104 rfl HIx.out ?_
   simp only [Act.put, nrm]
   refine zaj _ _ _ [.agg (ints .u8 x).toArray] (.agg (ints .u64 y).toArray) (by rfl) rfl Tryz.call75 rfl (fun w hw => HC1.out w) ?_
   simp only [Act.put, nrm]
   refine zaj _ _ _ [.agg (ints .u64 s).toArray, .agg (ints .u64 y).toArray] (.agg (ints .u64 p).toArray) (by rfl) rfl Tryz.call79 rfl (fun w hw => HC2.out w) ?_
   simp only [Act.put, nrm]
   refine zbp _ _ (A + 1) (ints .u64 R) _ (by rfl) rfl rfl (fun w hw => zbj HR2.out hw) Tryz.underlying105 rfl HIR.out ?_
   simp only [Act.put, nrm]
   refine zaj _ _ _ [.agg (ints .u64 p).toArray, .agg (ints .u64 R).toArray] (.agg (ints .u64 u).toArray) (by rfl) rfl Tryz.call106 rfl (fun w hw => HC3.out w) ?_
   simp only [Act.put, nrm]
   refine zbg (zdy (k := 6) rfl (by kernel_rfl) (by kernel_rfl) (by kernel_rfl) rfl (fun w5 hw5 => ?_))
   have HR2 := jh (zaa HR2.out hw5)
   have HZ2 := jh (zaa HZ2.out hw5)
   have HX := jh (zaa HX.out hw5)
   have HS2 := jh (zaa HS2.out hw5)
   have HM2 := jh (HM2.out.same (hw5.block A HM2.out.lt))
   have HE := jh (HE.out.trans hw5)
   clear hw5
   refine zau _ _ _ rfl (A + 1 + 1 + 1) (ints .u64 u) rfl rfl _ _ HS2.out HLu.out HIu.out (zai _ _) ?_
   intro w6 hb6 hg6
   have HR2 := jh (HR2.out.grown hg6 (by simp; omega))
   have HZ2 := jh (HZ2.out.grown hg6 (by simp))
   have HX := jh (HX.out.grown hg6 (by have := HAB.out; simp; omega))
   have HM2 := jh (HM2.out.same (hg6.block A HM2.out.lt (by simp; omega)))
   have HE := jh (zae HE.out hg6 (by have := HAW.out; omega))
   have HS2 := jh hb6
   clear hb6 hg6
   rw [HXE.out, ← bval_ints] at HX
   have HF := jh (fill_cap w0 w6 A B 16 17 ((m.drop (16 * n)).drop 16) (onB c) 104 HM2.out HX.out HOL.out (by omega) (by omega) (by omega) (HE0.out.trans HE.out) HAW0.out (by have := HAB.out; omega))
   clear HM2
   go_wp2_with fail
   refine HF.out.mono ?_
   rintro e w7 ⟨hf, hbut⟩
   unfold FillSaid at hf
   obtain ⟨c2, hc2, rfl, hM, hO, hbel⟩ := hf
   have e16 : (m.drop (16 * n)).drop 16 = m.drop (16 * (n + 1)) := by rw [List.drop_drop, show 16 * n + 16 = 16 * (n + 1) from by omega]
   rw [e16] at hc2 hM
   have HE7 : Hid (Ext w w7) := jh (Below.trans HE.out (hbel.mono HAW.out))
   have HST7 : Hid (PlySt w0 w7 A B R m (n + 1) c2 (onB c)) := jh ⟨HOL.out, hc2, by have h1 := HCL.out; have h2 := HFE.out; omega, hM, HR2.out.same (hbut (A + 1) (by have := HAB.out; omega) (by omega)), HZ2.out.same (hbut (A + 1 + 1) (by have := HAB.out; omega) (by omega)), by rw [HF1.out]; exact HS2.out.same (hbut (A + 1 + 1 + 1) (by have := HAB.out; omega) (by omega)), hO⟩
   have HNL : Hid (n < m.length + 16) := jh (by have := HFL.out; omega)
   clear hc2 hM hO hbel hbut HF e16
   go_wp2_with fail
   go_roundg (m.length + 16 - (n + 1))
   case rel => exact ⟨n + 1, c2, onB c, rfl, rfl, HST7.out, HE7.out⟩
   case measure => have := HGK.out; have := HNL.out; omega
  ·have g1 : ¬ (0 : Int) < (f : Int) := by omega
   have d1 : decide ((0 : Int) < (f : Int)) = false := decide_eq_false g1
   have HN : Hid (n = (m.length + 15) / 16) := jh (by have h1 := HST.out.few; have h2 := HCL.out; have h3 := HFE.out; omega)
   have HS2 := jh HST.out.blkS
   have HZ2 := jh HST.out.blkZ
   have HL : Hid ((fL R m n).length = 5) := jh (fL_near HR.out m n).lim.len
   obtain ⟨s, hs⟩ : ∃ s, s = fL R m n := ⟨_, rfl⟩
   rw [← hs] at HS2 HL
   have HSE := jh hs
   clear hs
   have HI : Hid ((Tryz.prog.info? 105).map (·.size) = some (ints .u64 s).length) := jh (zde HL.out)
   have HLz : Hid ((ints .u64 s).length = (ints .u64 (List.replicate 5 0)).length) := jh (by rw [zad, HL.out]; rfl)
   go_wp2_with (first | (refine zab rfl _ _ rfl (A + 1 + 1 + 1) rfl _ _ _ _ HS2.out Tryz.underlying105 HI.out ?_) | (refine zac rfl _ _ _ rfl (A + 1 + 1) (ints .u64 s) rfl rfl _ _ HZ2.out HLz.out HI.out (zai _ _) ?_; intro w5 hb5 hg5))
   refine bodyPost_ret (zap rfl _ (A + 1 + 1) _ _ _ _ rfl hb5 Tryz.underlying105 HI.out) rfl ?_
   exact ⟨by rw [HSE.out, HN.out], zae HE.out hg5 (by have := HAW.out; omega)⟩
theorem preduced_any (x : List Int) (w : World) (hx : Lim 268435455 x) :
  Calls Tryz.prog 80 #[.agg (ints .u64 x).toArray] w fun e w' => e = .returned (.agg (ints .u64 (redL x)).toArray) ∧ Below w.heap.size w w' := by
 have HX := jh hx
 have HB := jh (boxes2 w (ints .u64 x) (ints .u64 (List.replicate 5 0)) 105 105)
 have HIx := jh (zde hx.len)
 clear hx
 go_enter Tryz.func80, Tryz.ntmps80
 go_upto_region 1 with (fail)
 obtain ⟨H1, H2, HE⟩ := HB.out
 change Code.wp _ _ _ _ ((w.alloc (.cells (ints .u64 x).toArray 105)).alloc (.cells (ints .u64 (List.replicate 5 0)).toArray 105))
 generalize (w.alloc (.cells (ints .u64 x).toArray 105)).alloc (.cells (ints .u64 (List.replicate 5 0)).toArray 105) = wa at *
 obtain ⟨A, hA⟩ : ∃ A, A = w.heap.size := ⟨_, rfl⟩
 have HAW : Hid (w.heap.size ≤ A) := jh (by omega)
 rw [← hA] at H1 H2 ⊢
 have H1 := jh H1
 have H2 := jh H2
 have HE : Hid (Ext w wa) := jh HE
 clear hA HB
 go_wp2_with (refine zab rfl _ _ rfl A rfl _ _ _ _ H1.out Tryz.underlying105 HIx.out ?_)
 go_loopw [3, 7] (fun cv iv wr => ∃ (k : Nat), k ≤ 5 ∧ cv = .int .u64 (rRun x k) ∧ iv = .int .i64 (k : Int) ∧ Ext wa wr) (fun _ iv _ => 5 - (intOf iv).toNat)
 case atStart => exact ⟨0, by omega, rfl, rfl, Ext.refl _⟩
 case round =>
  obtain ⟨k, hk, rfl, rfl, hbel⟩ := hrel
  have k0 : (0 : Int) ≤ (k : Int) := Int.natCast_nonneg _
  have HX2 := jh hbel
  clear hbel
  by_cases hlk : k < 5
  ·have k1 : (k : Int) < 5 := by omega
   have hi := index_ints (kd := .u64) Tryz.underlying105 Tryz.sizeOf88 Tryz.isAgg88 x HX.out.len k hlk
   have hxa := HX.out.getD (by omega) k
   have hra := rRun_range (M := 268435455) (by omega) (HX.out.getD (by omega)) k
   have HS : Hid (rRun x (k + 1) = (rRun x k + x.getD k 0) / 67108864) := jh rfl
   generalize x.getD k 0 = p at *
   generalize rRun x k = q at *
   obtain ⟨p0, p1⟩ := hxa
   obtain ⟨r0, r1⟩ := hra
   go_wp2_with fail
   go_roundw
   case rel => exact ⟨k + 1, by omega, by rw [HS.out], by go_num, HX2.out⟩
   case measure => simp [intOf]; omega
  ·have hk5 : k = 5 := by omega
   subst hk5
   have H1 := jh (zaa H1.out HX2.out)
   have H2 := jh (zaa H2.out HX2.out)
   have HE := jh (HE.out.trans HX2.out)
   have q1 := digit_q H1.out (i := 0) (by rw [HX.out.len]; omega)
   have f1 := H1.out.free 0
   have hxa := HX.out.getD (by omega) 0
   have hra := rRun_range (M := 268435455) (by omega) (HX.out.getD (by omega)) 5
   have HR : Hid (redL x = setL (x.set 0 (x.getD 0 0 + 5 * rRun x 5))) := jh rfl
   have HL2 : Hid (Lim 1152921504606846976 (x.set 0 (x.getD 0 0 + 5 * rRun x 5))) := jh (by
    obtain ⟨a, b, c, d, e, rfl, h1, h2, h3, h4, h5⟩ := HX.out
    simp only [List.getD_cons_zero] at hxa hra ⊢
    exact ⟨_, b, c, d, e, rfl, by omega, by omega, by omega, by omega, by omega⟩)
   generalize x.getD 0 0 = p at *
   generalize rRun x 5 = q at *
   obtain ⟨p0, p1⟩ := hxa
   obtain ⟨r0, r1⟩ := hra
   go_upto_region 8 with (fail)
   have H1 : Hid (Blk (wr.setCell ⟨A, 0, none⟩ (.int .u64 (p + 5 * q))) A (ints .u64 (x.set 0 (p + 5 * q))) 105) := jh (H1.out.seti 0 _)
   have H2 := jh (H2.out.far (a := ⟨A, 0, none⟩) (by simp) (.int .u64 (p + 5 * q)))
   have HE : Hid (Ext w (wr.setCell ⟨A, 0, none⟩ (.int .u64 (p + 5 * q)))) := jh (Below.setCell HE.out (by have := HAW.out; simp; omega) _)
   generalize wr.setCell ⟨A, 0, none⟩ (.int .u64 (p + 5 * q)) = w3 at *
   clear q1 f1 HX2 HIx
   generalize x.set 0 (p + 5 * q) = y at *
   have HIy := jh (zde HL2.out.len)
   have HSY := jh (setL_len HL2.out.len)
   have HIo := jh (zde HSY.out)
   have HLz : Hid ((ints .u64 (setL y)).length = (ints .u64 (List.replicate 5 0)).length) := jh (by rw [zad, HSY.out]; rfl)
   go_wp2_with (refine zab rfl _ _ rfl A rfl _ _ _ _ H1.out Tryz.underlying105 HIy.out ?_)
   refine (psettled_any y w3 HL2.out).mono ?_
   rintro e w4 ⟨rfl, hb⟩
   have H2 := jh (zaa H2.out hb)
   have HE := jh (HE.out.trans hb)
   clear hb
   go_wp2_with (refine zac rfl _ _ _ rfl (A + 1) (ints .u64 (setL y)) rfl rfl _ _ H2.out HLz.out HIo.out (zai _ _) ?_; intro w5 hb5 hg5)
   refine bodyPost_ret (zap rfl _ (A + 1) _ _ _ _ rfl hb5 Tryz.underlying105 HIo.out) rfl ?_
   exact ⟨by rw [HR.out], zae HE.out hg5 (by have := HAW.out; omega)⟩
theorem and8_15f : ∀ n : Fin 256, bits .and .u8 (n.val : Int) 15 = (n.val : Int) % 16 := by decide +kernel
theorem and8_252f : ∀ n : Fin 256, bits .and .u8 (n.val : Int) 252 = (n.val : Int) / 4 * 4 := by decide +kernel
theorem and8_15 (a : Int) (h1 : 0 ≤ a) (h2 : a ≤ 255) : bits .and .u8 a 15 = a % 16 := by
 obtain ⟨n, rfl⟩ : ∃ n : Nat, a = (n : Int) := ⟨a.toNat, by omega⟩
 exact and8_15f ⟨n, by omega⟩
theorem and8_252 (a : Int) (h1 : 0 ≤ a) (h2 : a ≤ 255) : bits .and .u8 a 252 = a / 4 * 4 := by
 obtain ⟨n, rfl⟩ : ∃ n : Nat, a = (n : Int) := ⟨a.toNat, by omega⟩
 exact and8_252f ⟨n, by omega⟩
theorem pclamped_any (kb : List UInt8) (w : World) :
  Calls Tryz.prog 76 #[.agg (ints .u8 (rA kb 16)).toArray] w fun e w' => e = .returned (.agg (ints .u8 (rC kb 3)).toArray) ∧ Below w.heap.size w w' := by
 have HB := jh (boxes2 w (ints .u8 (rA kb 16)) (ints .u8 (List.replicate 17 0)) 104 104)
 go_enter Tryz.func76, Tryz.ntmps76
 go_upto_region 1 with (fail)
 obtain ⟨H1, H2, HE⟩ := HB.out
 change Code.wp _ _ _ _ ((w.alloc (.cells (ints .u8 (rA kb 16)).toArray 104)).alloc (.cells (ints .u8 (List.replicate 17 0)).toArray 104))
 generalize (w.alloc (.cells (ints .u8 (rA kb 16)).toArray 104)).alloc (.cells (ints .u8 (List.replicate 17 0)).toArray 104) = wa at *
 obtain ⟨A, hA⟩ : ∃ A, A = w.heap.size := ⟨_, rfl⟩
 have HAW : Hid (w.heap.size ≤ A) := jh (by omega)
 rw [← hA] at H1 H2 ⊢
 have H1 : Hid (Blk wa A (ints .u8 (rB kb 0)) 104) := jh H1
 have H2 := jh H2
 have HE : Hid (Ext w wa) := jh HE
 clear hA HB
 go_wp2_with fail
 go_loopw [3] (fun iv wr => ∃ (k : Nat), k ≤ 4 ∧ iv = .int .i64 (3 + 4 * (k : Int)) ∧ Blk wr A (ints .u8 (rB kb k)) 104 ∧ Blk wr (A + 1) (ints .u8 (List.replicate 17 0)) 104 ∧ Ext w wr) (fun iv _ => 20 - (intOf iv).toNat)
 case atStart => exact ⟨0, by omega, rfl, H1.out, H2.out, HE.out⟩
 case round =>
  clear H1 H2 HE
  obtain ⟨k, hk, rfl, hb1, hb2, hbel⟩ := hrel
  have k0 : (0 : Int) ≤ (k : Int) := Int.natCast_nonneg _
  have H1 := jh hb1
  have H2 := jh hb2
  have HE := jh hbel
  by_cases hlk : k < 4
  ·have k1 : 3 + 4 * (k : Int) < 16 := by omega
   have k2 : (0 : Int) ≤ 3 + 4 * (k : Int) := by omega
   have k3 : 3 + 4 * (k : Int) < 17 := by omega
   have kn : (3 + 4 * (k : Int)).toNat = 3 + 4 * k := by omega
   have c1 := digit_b hb1 (i := 3 + 4 * k) (by rw [rB_length]; omega)
   have f1 := hb1.free (3 + 4 * k)
   have hd := rB_digit kb k (3 + 4 * k) (by omega)
   have HS : Hid (rB kb (k + 1) = (rB kb k).set (3 + 4 * k) ((rB kb k).getD (3 + 4 * k) 0 % 16)) := jh rfl
   clear hb1 hb2 hbel
   generalize hz : (rB kb k).getD (3 + 4 * k) 0 = z at *
   clear hz
   obtain ⟨z0, z1⟩ := hd
   have a1 := and8_15 z z0 z1
   go_wp2_with fail
   go_roundw
   case rel => exact ⟨k + 1, by omega, by go_num, by rw [HS.out]; exact H1.out.seti _ _, H2.out.far (by simp) _, Below.setCell HE.out (by have := HAW.out; simp; omega) _⟩
   case measure => simp [intOf]; omega
  ·have hk4 : k = 4 := by omega
   subst hk4
   rw [show ((4 : Nat) : Int) = 4 from rfl]
   rw [show (3 : Int) + 4 * 4 = 19 from rfl]
   clear hb1 hb2 hbel
   have H1 : Hid (Blk wr A (ints .u8 (rC kb 0)) 104) := jh H1.out
   go_wp2_with fail
   go_loopw [4] (fun iv wr => ∃ (k : Nat), k ≤ 3 ∧ iv = .int .i64 (4 + 4 * (k : Int)) ∧ Blk wr A (ints .u8 (rC kb k)) 104 ∧ Blk wr (A + 1) (ints .u8 (List.replicate 17 0)) 104 ∧ Ext w wr) (fun iv _ => 20 - (intOf iv).toNat)
   case atStart => exact ⟨0, by omega, rfl, H1.out, H2.out, HE.out⟩
   case round =>
    clear H1 H2 HE
    obtain ⟨k, hk, rfl, hb1, hb2, hbel⟩ := hrel
    have k0 : (0 : Int) ≤ (k : Int) := Int.natCast_nonneg _
    have H1 := jh hb1
    have H2 := jh hb2
    have HE := jh hbel
    by_cases hlk : k < 3
    ·have k1 : 4 + 4 * (k : Int) < 16 := by omega
     have k2 : (0 : Int) ≤ 4 + 4 * (k : Int) := by omega
     have k3 : 4 + 4 * (k : Int) < 17 := by omega
     have kn : (4 + 4 * (k : Int)).toNat = 4 + 4 * k := by omega
     have c1 := digit_b hb1 (i := 4 + 4 * k) (by rw [zdw]; omega)
     have f1 := hb1.free (4 + 4 * k)
     have hd := rC_digit kb k (4 + 4 * k) (by omega)
     have HS : Hid (rC kb (k + 1) = (rC kb k).set (4 + 4 * k) ((rC kb k).getD (4 + 4 * k) 0 / 4 * 4)) := jh rfl
     clear hb1 hb2 hbel
     generalize hz : (rC kb k).getD (4 + 4 * k) 0 = z at *
     clear hz
     obtain ⟨z0, z1⟩ := hd
     have a1 := and8_252 z z0 z1
     go_wp2_with fail
     go_roundw
     case rel => exact ⟨k + 1, by omega, by go_num, by rw [HS.out]; exact H1.out.seti _ _, H2.out.far (by simp) _, Below.setCell HE.out (by have := HAW.out; simp; omega) _⟩
     case measure => simp [intOf]; omega
    ·have hk3 : k = 3 := by omega
     subst hk3
     rw [show ((3 : Nat) : Int) = 3 from rfl]
     rw [show (4 : Int) + 4 * 3 = 16 from rfl]
     clear hb1 hb2 hbel hk k0 hlk
     obtain ⟨s, hs⟩ : ∃ s, s = rC kb 3 := ⟨_, rfl⟩
     have HR := jh hs
     rw [← hs] at H1
     have HL : Hid (s.length = 17) := jh (by rw [hs, zdw])
     clear hs
     have HI : Hid ((Tryz.prog.info? 104).map (·.size) = some (ints .u8 s).length) := jh (blk_size17 HL.out)
     have HLz : Hid ((ints .u8 s).length = (ints .u8 (List.replicate 17 0)).length) := jh (by rw [zad, HL.out]; rfl)
     go_wp2_with (first | (refine zab rfl _ _ rfl A rfl _ _ _ _ H1.out Tryz.underlying104 HI.out ?_) | (refine zac rfl _ _ _ rfl (A + 1) (ints .u8 s) rfl rfl _ _ H2.out HLz.out HI.out (zai _ _) ?_; intro w5 hb5 hg5))
     refine bodyPost_ret (zap rfl _ (A + 1) _ _ _ _ rfl hb5 Tryz.underlying104 HI.out) rfl ?_
     exact ⟨by rw [HR.out], zae HE.out hg5 (by have := HAW.out; omega)⟩
theorem pow_up {s : Nat} (h : s ≤ 6) : (1 : Int) ≤ 2 ^ s ∧ (2 : Int) ^ s ≤ 64 := by
 match s, h with
 | 0, _ => decide
 | 1, _ => decide
 | 2, _ => decide
 | 3, _ => decide
 | 4, _ => decide
 | 5, _ => decide
 | 6, _ => decide
theorem pblock_any (x : List Int) (w : World) (hx : Lim 67108863 x) :
  Calls Tryz.prog 77 #[.agg (ints .u64 x).toArray] w fun e w' => e = .returned (.agg (ints .u8 (blkL x)).toArray) ∧ Below w.heap.size w w' := by
 have HX := jh hx
 have HB := jh (boxes3 w (ints .u64 x) (ints .u8 (List.replicate 17 0)) (ints .u8 (List.replicate 17 0)) 105 104 104)
 have HIx := jh (zde hx.len)
 clear hx
 go_enter Tryz.func77, Tryz.ntmps77
 go_upto_region 2 with (fail)
 obtain ⟨H1, H2, H3, HE⟩ := HB.out
 change Code.wp _ _ _ _ (((w.alloc (.cells (ints .u64 x).toArray 105)).alloc (.cells (ints .u8 (List.replicate 17 0)).toArray 104)).alloc (.cells (ints .u8 (List.replicate 17 0)).toArray 104))
 generalize ((w.alloc (.cells (ints .u64 x).toArray 105)).alloc (.cells (ints .u8 (List.replicate 17 0)).toArray 104)).alloc (.cells (ints .u8 (List.replicate 17 0)).toArray 104) = wa at *
 obtain ⟨A, hA⟩ : ∃ A, A = w.heap.size := ⟨_, rfl⟩
 have HAW : Hid (w.heap.size ≤ A) := jh (by omega)
 rw [← hA] at H1 H2 H3 ⊢
 have H1 := jh H1
 have H2 := jh H2
 have H3 : Hid (Blk wa (A + 1 + 1) (ints .u8 (oI x 0)) 104) := jh H3
 have HE : Hid (Ext w wa) := jh HE
 clear hA HB
 go_wp2_with (refine zab rfl _ _ rfl A rfl _ _ _ _ H1.out Tryz.underlying105 HIx.out ?_)
 go_loopw [9] (fun iv wr => ∃ (i : Nat), i ≤ 5 ∧ iv = .int .i64 (i : Int) ∧ Blk wr (A + 1) (ints .u8 (List.replicate 17 0)) 104 ∧ Blk wr (A + 1 + 1) (ints .u8 (oI x i)) 104 ∧ Ext w wr) (fun iv _ => 5 - (intOf iv).toNat)
 case atStart => exact ⟨0, by omega, rfl, H2.out, H3.out, HE.out⟩
 case round =>
  clear H1 H2 H3 HE HIx
  obtain ⟨i, hi, rfl, hb2, hb3, hbel⟩ := hrel
  have i0 : (0 : Int) ≤ (i : Int) := Int.natCast_nonneg _
  have H2 := jh hb2
  have H3 := jh hb3
  have HE := jh hbel
  clear hb2 hb3 hbel
  by_cases hli : i < 5
  ·have i1 : (i : Int) < 5 := by omega
   have hxi := index_ints (kd := .u64) Tryz.underlying105 Tryz.sizeOf88 Tryz.isAgg88 x HX.out.len i hli
   obtain ⟨z0, z1⟩ := HX.out.getD (by omega) i
   obtain ⟨q, hq⟩ : ∃ q, q = 26 * i / 8 := ⟨_, rfl⟩
   obtain ⟨s, hs⟩ : ∃ s, s = 26 * i % 8 := ⟨_, rfl⟩
   have hs6 : s ≤ 6 := by omega
   have hq13 : q ≤ 13 := by omega
   have d1 : 26 * (i : Int) / 8 = (q : Int) := by omega
   have d2 : Int.tdiv (26 * (i : Int)) 8 = (q : Int) := by rw [Int.tdiv_eq_ediv_of_nonneg (by omega)]; exact d1
   have s1 : 26 * (i : Int) % 8 = (s : Int) := by omega
   have s2 : Int.tmod (26 * (i : Int)) 8 = (s : Int) := by rw [Int.tmod_eq_emod_of_nonneg (by omega)]; exact s1
   have s3 : (s : Int) < 64 := by omega
   have s4 : (0 : Int) ≤ (s : Int) := by omega
   have HS : Hid (oI x (i + 1) = oN (oI x i) (x.getD i 0) q s 4) := jh (by rw [oI, hq, hs])
   have HL := jh (oI_length x i)
   have H3 : Hid (Blk wr (A + 1 + 1) (ints .u8 (oN (oI x i) (x.getD i 0) q s 0)) 104) := jh H3.out
   clear hq hs
   generalize x.getD i 0 = z at *
   generalize oI x i = c at *
   go_wp2_with fail
   go_loopw [15] (fun nv wq => ∃ (n : Nat), n ≤ 4 ∧ nv = .int .i64 (n : Int) ∧ Blk wq (A + 1) (ints .u8 (List.replicate 17 0)) 104 ∧ Blk wq (A + 1 + 1) (ints .u8 (oN c z q s n)) 104 ∧ Ext w wq) (fun nv _ => 4 - (intOf nv).toNat)
   case atStart => exact ⟨0, by omega, rfl, H2.out, H3.out, HE.out⟩
   case round =>
    clear H2 H3 HE
    obtain ⟨n, hn, rfl, hb2, hb3, hbel⟩ := hrel
    have n0 : (0 : Int) ≤ (n : Int) := Int.natCast_nonneg _
    have H2 := jh hb2
    have H3 := jh hb3
    have HE := jh hbel
    by_cases hln : n < 4
    ·have n1 : (n : Int) < 4 := by omega
     obtain ⟨j, hj⟩ : ∃ j, j = q + n := ⟨_, rfl⟩
     have j1 : (q : Int) + (n : Int) = (j : Int) := by omega
     have j2 : (j : Int) < 17 := by omega
     have j3 : (0 : Int) ≤ (j : Int) := by omega
     obtain ⟨e, he⟩ : ∃ e, e = 8 * n := ⟨_, rfl⟩
     have e1 : 8 * (n : Int) = (e : Int) := by omega
     have e2 : (e : Int) < 64 := by omega
     have e3 : (0 : Int) ≤ (e : Int) := by omega
     have q3 := digit_b hb3 (i := j) (by rw [oN_length, HL.out]; omega)
     have f3 := hb3.free j
     have hp := pow_up hs6
     have hpz : 0 ≤ z * 2 ^ s ∧ z * 2 ^ s ≤ 4294967232 := by
      have := mulB (X := 67108863) (Y := 64) ⟨z0, z1⟩ ⟨by omega, hp.2⟩
      omega
     have hdv : 0 ≤ z * 2 ^ s / 2 ^ e ∧ z * 2 ^ s / 2 ^ e ≤ 4294967295 := by
      have hp : (0 : Int) < 2 ^ e := Int.pow_pos (by omega)
      exact ⟨Int.ediv_nonneg hpz.1 (by omega), Int.le_trans (Int.ediv_le_self _ hpz.1) (by omega)⟩
     have HK : Hid (oN c z q s (n + 1) = (oN c z q s n).set j (bits .or .u8 ((oN c z q s n).getD j 0) (z * 2 ^ s / 2 ^ e % 256))) := jh (by rw [oN, ← hj, ← he])
     clear hb2 hb3 hbel hj he hp
     generalize (oN c z q s n).getD j 0 = y at *
     obtain ⟨p0, p1⟩ := hpz
     obtain ⟨r0, r1⟩ := hdv
     go_wp2_with fail
     go_region
     go_wp2_with fail
     go_roundw
     case rel => exact ⟨n + 1, by omega, by go_num, (H2.out.far (by simp) _).drewN 1, by rw [HK.out]; exact (H3.out.seti j _).drewN 1, Ext.trans (Below.setCell HE.out (by have := HAW.out; simp; omega) _) (Ext.drew _)⟩
     case measure => simp [intOf]; omega
    ·have hn4 : n = 4 := by omega
     subst hn4
     rw [show ((4 : Nat) : Int) = 4 from rfl]
     clear hb2 hb3 hbel
     go_wp2_with fail
     go_roundw
     case rel => exact ⟨i + 1, by omega, by go_num, H2.out, by rw [HS.out]; exact H3.out, HE.out⟩
     case measure => simp [intOf]; omega
  ·have hi5 : i = 5 := by omega
   subst hi5
   have HL : Hid ((oI x 5).length = 17) := jh (oI_length x 5)
   have HR : Hid (blkL x = oI x 5) := jh rfl
   generalize oI x 5 = s at *
   have HI : Hid ((Tryz.prog.info? 104).map (·.size) = some (ints .u8 s).length) := jh (blk_size17 HL.out)
   have HLz : Hid ((ints .u8 s).length = (ints .u8 (List.replicate 17 0)).length) := jh (by rw [zad, HL.out]; rfl)
   go_wp2_with (first | (refine zab rfl _ _ rfl (A + 1 + 1) rfl _ _ _ _ H3.out Tryz.underlying104 HI.out ?_) | (refine zac rfl _ _ _ rfl (A + 1) (ints .u8 s) rfl rfl _ _ H2.out HLz.out HI.out (zai _ _) ?_; intro w5 hb5 hg5))
   refine bodyPost_ret (zap rfl _ (A + 1) _ _ _ _ rfl hb5 Tryz.underlying104 HI.out) rfl ?_
   exact ⟨by rw [HR.out], zae HE.out hg5 (by have := HAW.out; omega)⟩
theorem Tryz.ptag53 : (Tryz.prog.info? 53).map (·.size) = some 16 := by kernel_rfl
theorem ptag_size {l : List UInt8} (h : l.length = 16) : (Tryz.prog.info? 53).map (·.size) = some (l.map bval).length := by rw [List.length_map, h]; exact Tryz.ptag53
theorem rA_iB (kb : List UInt8) (hk : kb.length = 32) : iB (kb.take 16 ++ [0]) = rA kb 16 := by
 apply ext_getD (by rw [iB_length, rA_length, List.length_append, List.length_take, hk]; rfl)
 intro i hi
 rw [iB_getD, rA_getD kb 16 (by omega) i]
 by_cases h : i < 16
 ·rw [if_pos h]
  simp [List.getD, List.getElem?_append_left (show i < (kb.take 16).length by rw [List.length_take]; omega), List.getElem?_take, h]
 ·rw [if_neg h]
  rw [iB_length, List.length_append, List.length_take, hk] at hi
  have e : i = 16 := by simp at hi; omega
  subst e
  simp [List.getD, hk]
theorem half_laid (c : List UInt8) (hc : c.length = 16) : splice ((List.replicate 17 (0 : UInt8)).map bval) 0 (c.map bval) = (c ++ [0]).map bval := by
 rw [splice_bytes, hc]
 simp
theorem tag_laid (c : List UInt8) (hc : c.length = 16) : splice ((List.replicate 16 (0 : UInt8)).map bval) 0 (c.map bval) = c.map bval := by
 rw [splice_bytes, hc]
 simp
theorem PSum_num (kb : List UInt8) (v : Value) (ls : List (List UInt8)) (w : World) (hk : kb.length = 32) (hv : RowB w v ls) (hm : ls.flatten.length ≤ 1099511627776) :
  Calls Tryz.prog 42 #[.agg (kb.map bval).toArray, v] w fun e w' => e = .returned (.agg ((polyTag kb ls.flatten).map bval).toArray) ∧ Below w.heap.size w w' := by
 obtain ⟨a, cap, rfl⟩ := rowB_any hv
 have HKL := jh hk
 have HRB := jh hv
 have HM := jh hm
 have HB := jh (boxes4 w (kb.map bval) (ints .u8 (List.replicate 16 0)) (ints .u8 (List.replicate 17 0)) (ints .u8 (List.replicate 17 0)) 23 53 104 104)
 clear hk hv hm
 go_enter Tryz.func42, Tryz.ntmps42
 go_upto_region 2 with (fail)
 obtain ⟨H1, H2, H3, H4, HE⟩ := HB.out
 change Code.wp _ _ _ _ ((((w.alloc (.cells (kb.map bval).toArray 23)).alloc (.cells (ints .u8 (List.replicate 16 0)).toArray 53)).alloc (.cells (ints .u8 (List.replicate 17 0)).toArray 104)).alloc (.cells (ints .u8 (List.replicate 17 0)).toArray 104))
 generalize (((w.alloc (.cells (kb.map bval).toArray 23)).alloc (.cells (ints .u8 (List.replicate 16 0)).toArray 53)).alloc (.cells (ints .u8 (List.replicate 17 0)).toArray 104)).alloc (.cells (ints .u8 (List.replicate 17 0)).toArray 104) = wa at *
 obtain ⟨A, hA⟩ : ∃ A, A = w.heap.size := ⟨_, rfl⟩
 have HAW : Hid (w.heap.size ≤ A) := jh (by omega)
 rw [← hA] at H1 H2 H3 H4 ⊢
 have H1 := jh H1
 have H2 := jh H2
 have H3 : Hid (Blk wa (A + 1 + 1) ((List.replicate 17 (0 : UInt8)).map bval) 104) := jh H3
 have H4 : Hid (Blk wa (A + 1 + 1 + 1) ((List.replicate 17 (0 : UInt8)).map bval) 104) := jh H4
 have HE : Hid (Ext w wa) := jh HE
 clear hA HB
 refine zal 2 1 2 rfl (by kernel_rfl) (by kernel_rfl) (fun d v c a w h => by cases d <;> exact h) (by kernel_rfl) ?_
 refine zbf (.slice (some ⟨A + 1 + 1, 0, none⟩) 16 17) (by rfl) (fun w hw => by go_simp) ?_
 simp only [Act.put, nrm]
 refine zbf (.slice (some ⟨A, 0, none⟩) 16 32) (by rfl) (fun w hw => by go_simp) ?_
 simp only [Act.put, nrm]
 refine zbg (zdy (k := 2) rfl (by kernel_rfl) (by kernel_rfl) (by kernel_rfl) rfl (fun w1 hw1 => ?_))
 have H1 := jh (zaa H1.out hw1)
 have H2 := jh (zaa H2.out hw1)
 have H3 := jh (zaa H3.out hw1)
 have H4 := jh (zaa H4.out hw1)
 have HE := jh (HE.out.trans hw1)
 clear hw1
 refine zdl _ _ 25 25 rfl 5 Tryz.underlying25 num_one _ _ _ _ _ _ rfl rfl (A + 1 + 1) 0 _ _ H3.out ((kb.take 16).map bval) (by rw [List.length_map, List.length_take, HKL.out]; rfl) (fun _ => ⟨rfl, ⟨A, 0, none⟩, rfl, fun j v hj => ?_⟩) (by simp [HKL.out]) (zag _) ?_
 ·have hj2 : j < 16 := by
   rcases Nat.lt_or_ge j 16 with h | h
   ·exact h
   ·rw [List.getElem?_eq_none (by rw [List.length_map, List.length_take]; omega)] at hj; cases hj
  rw [WideShapes.add_plain, Nat.zero_add, H1.out.cell, ← hj, List.getElem?_map, List.getElem?_map, List.getElem?_take, if_pos hj2]
 intro w2 hb2 hg2
 rw [half_laid _ (by rw [List.length_take, HKL.out]; rfl)] at hb2
 have H1 := jh (H1.out.grown hg2 (by simp; omega))
 have H2 := jh (H2.out.grown hg2 (by simp))
 have H4 := jh (H4.out.grown hg2 (by simp))
 have HE := jh (zae HE.out hg2 (by have := HAW.out; omega))
 have H3 := jh hb2
 clear hb2 hg2
 generalize goInt ((kb.take 16).map bval).length = g1
 simp only [Act.put, nrm]
 go_upto_region 3 with (fail)
 refine zal 2 1 2 rfl (by kernel_rfl) (by kernel_rfl) (fun d v c a w h => by cases d <;> exact h) (by kernel_rfl) ?_
 refine zbf (.slice (some ⟨A + 1 + 1 + 1, 0, none⟩) 16 17) (by rfl) (fun w hw => by go_simp) ?_
 simp only [Act.put, nrm]
 refine zbf (.slice (some ⟨A, 16, none⟩) 16 16) (by rfl) (fun w hw => by go_simp) ?_
 simp only [Act.put, nrm]
 refine zbg (zdy (k := 2) rfl (by kernel_rfl) (by kernel_rfl) (by kernel_rfl) rfl (fun w3 hw3 => ?_))
 have H1 := jh (zaa H1.out hw3)
 have H2 := jh (zaa H2.out hw3)
 have H3 := jh (zaa H3.out hw3)
 have H4 := jh (zaa H4.out hw3)
 have HE := jh (HE.out.trans hw3)
 clear hw3
 have HSL : Hid (((kb.drop 16).take 16).length = 16) := jh (by rw [List.length_take, List.length_drop, HKL.out]; rfl)
 refine zdl _ _ 25 25 rfl 5 Tryz.underlying25 num_one _ _ _ _ _ _ rfl rfl (A + 1 + 1 + 1) 0 _ _ H4.out (((kb.drop 16).take 16).map bval) (by rw [List.length_map, HSL.out]; rfl) (fun _ => ⟨rfl, ⟨A, 16, none⟩, rfl, fun j v hj => ?_⟩) (by rw [List.length_map, HSL.out]; simp) (zag _) ?_
 ·have hj2 : j < 16 := by
   rcases Nat.lt_or_ge j 16 with h | h
   ·exact h
   ·rw [List.getElem?_eq_none (by rw [List.length_map, HSL.out]; omega)] at hj; cases hj
  rw [WideShapes.add_plain, H1.out.cell, ← hj, List.getElem?_map, List.getElem?_map, List.getElem?_take, if_pos hj2, List.getElem?_drop]
 intro w4 hb4 hg4
 rw [half_laid _ HSL.out, bval_ints] at hb4
 have H2 := jh (H2.out.grown hg4 (by simp; omega))
 have H3 := jh (H3.out.grown hg4 (by simp))
 have HE := jh (zae HE.out hg4 (by have := HAW.out; omega))
 have H4 := jh hb4
 clear hb4 hg4 H1
 rw [bval_ints, rA_iB kb HKL.out] at H3
 generalize goInt (((kb.drop 16).take 16).map bval).length = g2
 simp only [Act.put, nrm]
 -- the fold
 obtain ⟨m, hm⟩ : ∃ m, m = ls.flatten := ⟨_, rfl⟩
 have HM := HM.out
 rw [← hm] at HM
 have hrl := rL_val kb
 have hfv := fL_val kb m ((m.length + 15) / 16)
 have hsv := sL_val HKL.out
 obtain ⟨o17, ho1, ho2, ho3⟩ := tag_bytes (key := kb) (m := m) HKL.out
 have hov := outL_val (key := kb) (m := m) HKL.out
 have hrv := redL_val hfv.1.lim.len (fun i => (hfv.1.lim.getD (by omega) i).1) hfv.1.below
 have hav := addL_val hrv.1 hsv.1
 have HFO := jh (fun w' (h : Ext w w') => pfolded_any (.slice a ls.length cap) ls (rL kb) w w' HRB.out h hrl.1 (by rw [← hm]; exact HM))
 rw [← hm] at HFO
 obtain ⟨R, hR⟩ : ∃ R, R = rL kb := ⟨_, rfl⟩
 obtain ⟨F, hF⟩ : ∃ F, F = fL R m ((m.length + 15) / 16) := ⟨_, rfl⟩
 obtain ⟨D, hD⟩ : ∃ D, D = redL F := ⟨_, rfl⟩
 obtain ⟨S, hS⟩ : ∃ S, S = sL kb := ⟨_, rfl⟩
 obtain ⟨P, hP⟩ : ∃ P, P = addL D S := ⟨_, rfl⟩
 obtain ⟨O, hO⟩ : ∃ O, O = setL P := ⟨_, rfl⟩
 have HOO : Hid (O = outL kb m) := jh (by rw [hO, hP, hD, hS, hF, hR]; rfl)
 rw [← hR, ← hF] at hfv hrv hav HFO
 rw [← hR] at hrl
 rw [← hD] at hrv hav
 rw [← hS] at hsv hav
 rw [← hP] at hav
 rw [← HOO.out] at hov ho2
 have C1 : Hid (∀ w, Calls Tryz.prog 76 #[.agg (ints .u8 (rA kb 16)).toArray] w fun e w' => e = .returned (.agg (ints .u8 (rC kb 3)).toArray) ∧ Below w.heap.size w w') := jh (pclamped_any kb)
 have C2 : Hid (∀ w, Calls Tryz.prog 75 #[.agg (ints .u8 (rC kb 3)).toArray] w fun e w' => e = .returned (.agg (ints .u64 R).toArray) ∧ Below w.heap.size w w') := jh (fun w => by rw [hR]; exact plimbs_any _ w (D17_rC kb))
 have C3 : Hid (∀ w, Calls Tryz.prog 80 #[.agg (ints .u64 F).toArray] w fun e w' => e = .returned (.agg (ints .u64 D).toArray) ∧ Below w.heap.size w w') := jh (fun w => by rw [hD]; exact preduced_any _ w (hfv.1.lim.up (by omega)))
 have hq17 : ((kb.drop 16).take 16 ++ [0]).length = 17 := by rw [List.length_append, HSL.out]; rfl
 have C4 : Hid (∀ w, Calls Tryz.prog 75 #[.agg (ints .u8 (iB ((kb.drop 16).take 16 ++ [0]))).toArray] w fun e w' => e = .returned (.agg (ints .u64 S).toArray) ∧ Below w.heap.size w w') := jh (fun w => by rw [hS]; exact plimbs_any _ w (D17_iB hq17))
 have C5 : Hid (∀ w, Calls Tryz.prog 79 #[.agg (ints .u64 D).toArray, .agg (ints .u64 S).toArray] w fun e w' => e = .returned (.agg (ints .u64 P).toArray) ∧ Below w.heap.size w w') := jh (fun w => by rw [hP]; exact pplus_any _ _ w (hrv.1.up (by omega)) (hsv.1.up (by omega)))
 have C6 : Hid (∀ w, Calls Tryz.prog 78 #[.agg (ints .u64 P).toArray] w fun e w' => e = .returned (.agg (ints .u64 O).toArray) ∧ Below w.heap.size w w') := jh (fun w => by rw [hO]; exact psettled_any _ w (hav.1.up (by omega)))
 have C7 : Hid (∀ w, Calls Tryz.prog 77 #[.agg (ints .u64 O).toArray] w fun e w' => e = .returned (.agg (ints .u8 (iB o17)).toArray) ∧ Below w.heap.size w w') := jh (fun w => by rw [← ho2]; exact pblock_any _ w hov.1)
 have HIF := jh (zde hfv.1.lim.len)
 have HLF : Hid ((ints .u64 F).length = (ints .u64 (List.replicate 5 0)).length) := jh (by rw [zad, hfv.1.lim.len]; rfl)
 have HIr := jh (blk_size17 (rA_length kb 16))
 have HIq := jh (blk_size17 (l := iB ((kb.drop 16).take 16 ++ [0])) (by rw [iB_length, hq17]))
 have HIo := jh (blk_size17 (l := iB o17) (by rw [iB_length, ho1]))
 have HLo : Hid ((ints .u8 (iB o17)).length = (ints .u8 (List.replicate 17 0)).length) := jh (by rw [zad, iB_length, ho1]; rfl)
 have HO1 := jh ho1
 have HO3 := jh ho3
 have HMM := jh hm
 clear hrl hfv hsv ho1 ho2 ho3 hov hrv hav hR hF hD hS hP hO hq17 HOO hm HM
 generalize rA kb 16 = ra at *
 generalize rC kb 3 = rc at *
 generalize iB ((kb.drop 16).take 16 ++ [0]) = sq at *
 obtain ⟨oi, hoi⟩ : ∃ oi, oi = iB o17 := ⟨_, rfl⟩
 rw [← hoi] at C7 HIo HLo
 have HOI := jh hoi
 clear hoi
 go_upto_region 4 with (fail)
 refine zal 6 2 7 rfl (by kernel_rfl) (by kernel_rfl) (fun d v c a w h => by cases d <;> exact h) (by kernel_rfl) ?_
 refine zba _ (.slice a ls.length cap) (by rfl) rfl rfl ?_
 simp only [Act.put, nrm]
 refine zaj _ _ _ [.slice a ls.length cap] (.agg #[.slice none 0 0, .slice a ls.length cap]) (by rfl) rfl Tryz.call74 rfl (fun w hw => of_any a ls.length cap w) ?_
 simp only [Act.put, nrm]
 refine zbp _ _ (A + 1 + 1) (ints .u8 ra) _ (by rfl) rfl rfl (fun w hw => zbj H3.out hw) Tryz.underlying104 rfl HIr.out ?_
 simp only [Act.put, nrm]
 refine zaj _ _ _ [.agg (ints .u8 ra).toArray] (.agg (ints .u8 rc).toArray) (by rfl) rfl Tryz.call76 rfl (fun w hw => C1.out w) ?_
 simp only [Act.put, nrm]
 refine zaj _ _ _ [.agg (ints .u8 rc).toArray] (.agg (ints .u64 R).toArray) (by rfl) rfl Tryz.call75 rfl (fun w hw => C2.out w) ?_
 simp only [Act.put, nrm]
 refine zaj _ _ _ [.agg #[.slice none 0 0, .slice a ls.length cap], .agg (ints .u64 R).toArray] (.agg (ints .u64 F).toArray) (by rfl) rfl Tryz.call73 rfl (fun w hw => HFO.out w (HE.out.trans hw)) ?_
 simp only [Act.put, nrm]
 refine zbg (end_var (k := 6) _ 7 (.tmp 21) (ints .u64 (List.replicate 5 0)) (ints .u64 F) rfl rfl (by kernel_rfl) (by kernel_rfl) (by kernel_rfl) (by kernel_rfl) (by kernel_rfl) rfl rfl rfl rfl Tryz.zeroValue105 rfl (by simp) (fun p => rfl) HLF.out HIF.out (zai _ _) (fun p5 w5 hp5 hb5 he5 => ?_))
 simp only [Act.put, nrm]
 have H2 := jh (zaa H2.out he5)
 have H4 := jh (zaa H4.out he5)
 have HE := jh (HE.out.trans he5)
 have H5 := jh hb5
 clear hb5 he5 hp5 H3
 go_upto_region 5 with (fail)
 refine zal 7 2 8 rfl (by kernel_rfl) (by kernel_rfl) (fun d v c a w h => by cases d <;> exact h) (by kernel_rfl) ?_
 refine zbp _ _ p5 (ints .u64 F) _ (by rfl) rfl rfl (fun w hw => zbj H5.out hw) Tryz.underlying105 rfl HIF.out ?_
 simp only [Act.put, nrm]
 refine zaj _ _ _ [.agg (ints .u64 F).toArray] (.agg (ints .u64 D).toArray) (by rfl) rfl Tryz.call80 rfl (fun w hw => C3.out w) ?_
 simp only [Act.put, nrm]
 refine zbp _ _ (A + 1 + 1 + 1) (ints .u8 sq) _ (by rfl) rfl rfl (fun w hw => zbj H4.out hw) Tryz.underlying104 rfl HIq.out ?_
 simp only [Act.put, nrm]
 refine zaj _ _ _ [.agg (ints .u8 sq).toArray] (.agg (ints .u64 S).toArray) (by rfl) rfl Tryz.call75 rfl (fun w hw => C4.out w) ?_
 simp only [Act.put, nrm]
 refine zaj _ _ _ [.agg (ints .u64 D).toArray, .agg (ints .u64 S).toArray] (.agg (ints .u64 P).toArray) (by rfl) rfl Tryz.call79 rfl (fun w hw => C5.out w) ?_
 simp only [Act.put, nrm]
 refine zaj _ _ _ [.agg (ints .u64 P).toArray] (.agg (ints .u64 O).toArray) (by rfl) rfl Tryz.call78 rfl (fun w hw => C6.out w) ?_
 simp only [Act.put, nrm]
 refine zaj _ _ _ [.agg (ints .u64 O).toArray] (.agg (ints .u8 oi).toArray) (by rfl) rfl Tryz.call77 rfl (fun w hw => C7.out w) ?_
 simp only [Act.put, nrm]
 refine zbg (end_var (k := 7) _ 8 (.tmp 28) (ints .u8 (List.replicate 17 0)) (ints .u8 oi) rfl rfl (by kernel_rfl) (by kernel_rfl) (by kernel_rfl) (by kernel_rfl) (by kernel_rfl) rfl rfl rfl rfl Tryz.zeroValue104 rfl (by simp) (fun p => rfl) HLo.out HIo.out (zai _ _) (fun p6 w6 hp6 hb6 he6 => ?_))
 simp only [Act.put, nrm]
 have H2 := jh (zaa H2.out he6)
 have HE := jh (HE.out.trans he6)
 rw [HOI.out, ← bval_ints] at hb6
 have H6 := jh hb6
 clear hb6 he6 hp6 H4 H5
 have HXA := Ext.alloc w6 (.cells (ints .u8 (List.replicate 16 0)).toArray 53)
 obtain ⟨T, hT⟩ : ∃ T, T = w6.heap.size := ⟨_, rfl⟩
 have HTA : Hid (A + 1 < T ∧ p6 < T) := jh (by have := H2.out.lt; have := H6.out.lt; omega)
 have H7 : Hid (Blk (w6.alloc (.cells (ints .u8 (List.replicate 16 0)).toArray 53)) T ((List.replicate 16 (0 : UInt8)).map bval) 53) := jh (by rw [hT]; exact Blk.made w6 (ints .u8 (List.replicate 16 0)) 53)
 have H2 := jh (zaa H2.out HXA)
 have H6 := jh (zaa H6.out HXA)
 have HE := jh (HE.out.trans HXA)
 clear HXA
 go_upto_region 7 with (fail)
 change Code.wp _ _ _ _ (w6.alloc (.cells (ints .u8 (List.replicate 16 0)).toArray 53))
 rw [← hT]
 clear hT
 generalize w6.alloc (.cells (ints .u8 (List.replicate 16 0)).toArray 53) = w7 at *
 refine zal 2 1 2 rfl (by kernel_rfl) (by kernel_rfl) (fun d v c a w h => by cases d <;> exact h) (by kernel_rfl) ?_
 refine zbf (.slice (some ⟨T, 0, none⟩) 16 16) (by rfl) (fun w hw => by go_simp) ?_
 simp only [Act.put, nrm]
 refine zbf (.slice (some ⟨p6, 0, none⟩) 17 17) (by rfl) (fun w hw => by go_simp) ?_
 simp only [Act.put, nrm]
 refine zbg (zdy (k := 2) rfl (by kernel_rfl) (by kernel_rfl) (by kernel_rfl) rfl (fun w8 hw8 => ?_))
 have H2 := jh (zaa H2.out hw8)
 have H6 := jh (zaa H6.out hw8)
 have H7 := jh (zaa H7.out hw8)
 have HE := jh (HE.out.trans hw8)
 clear hw8
 have HTL : Hid ((o17.take 16).length = 16) := jh (by rw [List.length_take, HO1.out]; rfl)
 refine zdl _ _ 25 25 rfl 5 Tryz.underlying25 num_one _ _ _ _ _ _ rfl rfl T 0 _ _ H7.out ((o17.take 16).map bval) (by rw [List.length_map, HTL.out]; rfl) (fun _ => ⟨rfl, ⟨p6, 0, none⟩, rfl, fun j v hj => ?_⟩) (by rw [List.length_map, HTL.out]; simp) (zag _) ?_
 ·have hj2 : j < 16 := by
   rcases Nat.lt_or_ge j 16 with h | h
   ·exact h
   ·rw [List.getElem?_eq_none (by rw [List.length_map, HTL.out]; omega)] at hj; cases hj
  rw [WideShapes.add_plain, Nat.zero_add, H6.out.cell, ← hj, List.getElem?_map, List.getElem?_map, List.getElem?_take, if_pos hj2]
 intro w9 hb9 hg9
 rw [tag_laid _ HTL.out] at hb9
 have H2 := jh (H2.out.grown hg9 (by have := HTA.out; simp; omega))
 have HE := jh (zae HE.out hg9 (by have := HTA.out; have := HAW.out; omega))
 have H7 := jh hb9
 clear hb9 hg9
 generalize goInt ((o17.take 16).map bval).length = g3
 simp only [Act.put, nrm]
 generalize o17.take 16 = tg at *
 have HIt : Hid ((Tryz.prog.info? 53).map (·.size) = some (tg.map bval).length) := jh (ptag_size HTL.out)
 have HLt : Hid ((tg.map bval).length = (ints .u8 (List.replicate 16 0)).length) := jh (by rw [List.length_map, HTL.out]; rfl)
 go_wp2_with (first | (refine zab rfl _ _ rfl T rfl _ _ _ _ H7.out Tryz.underlying53 HIt.out ?_) | (refine zac rfl _ _ _ rfl (A + 1) (tg.map bval) rfl rfl _ _ H2.out HLt.out HIt.out (zag _) ?_; intro w10 hb10 hg10))
 refine bodyPost_ret (zap rfl _ (A + 1) _ _ _ _ rfl hb10 Tryz.underlying53 HIt.out) rfl ?_
 exact ⟨by rw [HO3.out, HMM.out], zae HE.out hg10 (by have := HAW.out; omega)⟩
def apartN (a b : List UInt8) : Nat → Nat
 | 0 => a.length ^^^ b.length
 | k + 1 => apartN a b k ||| (a.getD k 0 ^^^ b.getD k 0).toNat
theorem nat_xor_zero (x y : Nat) : x ^^^ y = 0 ↔ x = y := by
 constructor
 ·intro h
  have e : x ^^^ y ^^^ y = y := by rw [h, Nat.zero_xor]
  rwa [Nat.xor_assoc, Nat.xor_self, Nat.xor_zero] at e
 ·rintro rfl
  exact Nat.xor_self _
theorem apartN_zero (a b : List UInt8) : ∀ k, apartN a b k = 0 ↔ a.length = b.length ∧ ∀ i, i < k → a.getD i 0 = b.getD i 0
 | 0 => by
  unfold apartN
  rw [nat_xor_zero]
  exact ⟨fun h => ⟨h, fun i hi => absurd hi (Nat.not_lt_zero _)⟩, fun h => h.1⟩
 | k + 1 => by
  unfold apartN
  rw [Nat.or_eq_zero_iff, apartN_zero a b k]
  have e : (a.getD k 0 ^^^ b.getD k 0).toNat = 0 ↔ a.getD k 0 = b.getD k 0 := by
   rw [UInt8.toNat_xor, nat_xor_zero]
   exact UInt8.toNat_inj
  rw [e]
  constructor
  ·rintro ⟨⟨h1, h2⟩, h3⟩
   refine ⟨h1, fun i hi => ?_⟩
   rcases Nat.lt_or_ge i k with h | h
   ·exact h2 i h
   ·obtain rfl : i = k := by omega
    exact h3
  ·rintro ⟨h1, h2⟩
   exact ⟨⟨h1, fun i hi => h2 i (by omega)⟩, h2 k (by omega)⟩
theorem apartN_same (a b : List UInt8) : apartN a b (min a.length b.length) = 0 ↔ a = b := by
 rw [apartN_zero]
 constructor
 ·rintro ⟨h1, h2⟩
  apply List.ext_getElem h1
  intro i hi1 hi2
  have := h2 i (by omega)
  simpa [List.getD, hi1, hi2] using this
 ·rintro rfl
  exact ⟨rfl, fun _ _ => rfl⟩
theorem apartN_lt (a b : List UInt8) (ha : a.length < 9223372036854775808) (hb : b.length < 9223372036854775808) : ∀ k, apartN a b k < 9223372036854775808
 | 0 => Nat.xor_lt_two_pow (n := 63) ha hb
 | k + 1 => by
  have h := (a.getD k 0 ^^^ b.getD k 0).toNat_lt
  exact Nat.or_lt_two_pow (n := 63) (apartN_lt a b ha hb k) (Nat.lt_trans h (by decide))
theorem xor_i64 (a b : Nat) (ha : a < 9223372036854775808) (hb : b < 9223372036854775808) : bits .xor .i64 (a : Int) (b : Int) = ((a ^^^ b : Nat) : Int) := by
 have h1 : (BitVec.ofInt 64 (a : Int)).toNat = a := by rw [BitVec.toNat_ofInt]; omega
 have h2 : (BitVec.ofInt 64 (b : Int)).toNat = b := by rw [BitVec.toNat_ofInt]; omega
 have hl : a ^^^ b < 9223372036854775808 := Nat.xor_lt_two_pow (n := 63) ha hb
 show IntKind.i64.wrap ((BitVec.ofInt 64 (a : Int) ^^^ BitVec.ofInt 64 (b : Int)).toNat : Nat) = _
 rw [BitVec.toNat_xor, h1, h2, IntKind.wrap_i64]
 omega
theorem MacSame_num (av bv : Value) (a b : List UInt8) (w : World) (ha : Row1 w av (a.map bval)) (hb : Row1 w bv (b.map bval)) :
  Calls Tryz.prog 35 #[av, bv] w fun e w' => e = .returned (.bool (decide (a = b))) ∧ Below w.heap.size w w' := by
 have HA := jh ha
 have HB := jh hb
 obtain ⟨a1, c1, rfl, p1, p2, p3, p4⟩ := id ha
 obtain ⟨a2, c2, rfl, q1, q2, q3, q4⟩ := id hb
 rw [List.length_map] at p1 q1 HA HB ⊢
 rw [List.length_map]
 unfold maxLen at p2 q2
 have hla : a.length < 9223372036854775808 := by omega
 have hlb : b.length < 9223372036854775808 := by omega
 have hx0 := xor_i64 a.length b.length hla hlb
 have HLT := jh (apartN_lt a b hla hlb)
 have HSAME := jh (apartN_same a b)
 have HCA := jh p4
 have HCB := jh q4
 have HLA := jh hla
 clear ha hb HA HB p1 p2 p3 p4 q1 q2 q3 q4 hla hlb
 go_enter Tryz.func35, Tryz.ntmps35
 go_upto_region 3 with (fail)
 all_goals
  have HMIN : Hid (∃ m : Nat, m = min a.length b.length ∧ m ≤ a.length ∧ m ≤ b.length) := jh ⟨_, rfl, Nat.min_le_left _ _, Nat.min_le_right _ _⟩
  obtain ⟨m, hm, m1, m2⟩ := HMIN.out
  have HMB : Hid (m = a.length ∧ a.length ≤ b.length ∨ m = b.length ∧ b.length ≤ a.length) := jh (by omega)
  rw [← hm] at HSAME
  have HM := jh hm
  clear hm hx0 HMIN
  go_loopw [5, 17] (fun ap iv wr => ∃ (j : Nat), j ≤ m ∧ ap = .int .i64 (apartN a b j : Int) ∧ iv = .int .i64 (j : Int) ∧ Ext w wr) (fun _ iv _ => m - (intOf iv).toNat)
  case atStart => exact ⟨0, by omega, rfl, rfl, Ext.refl w⟩
  case round =>
   obtain ⟨j, hj, rfl, rfl, hE⟩ := hrel
   have HE := jh hE
   clear hE
   have k0 : (0 : Int) ≤ (j : Int) := Int.natCast_nonneg _
   by_cases hlj : j < m
   ·have ka : (j : Int) < (a.length : Int) := by omega
    have kb : (j : Int) < (b.length : Int) := by omega
    have hja : j < a.length := by omega
    have j63 : (j : Int) + 1 ≤ 9223372036854775807 := by have := HLA.out; omega
    have hjb : j < b.length := by omega
    obtain ⟨g1, o1, rfl, s1, t1⟩ := HCA.out (by intro e; have h := congrArg List.length e; rw [List.length_map] at h; simp only [List.length_nil] at h; omega)
    obtain ⟨g2, o2, rfl, s2, t2⟩ := HCB.out (by intro e; have h := congrArg List.length e; rw [List.length_map] at h; simp only [List.length_nil] at h; omega)
    have c1 : wr.cell? ⟨g1, o1 + j, none⟩ = some (.int .u8 ((a.getD j 0).toNat : Int)) := by
     have h := t1 j (by rw [List.length_map]; exact hja)
     rw [zbb hja] at h
     rw [← h]
     exact HE.out.cell (p := ⟨g1, o1 + j, none⟩) s1
    have c2 : wr.cell? ⟨g2, o2 + j, none⟩ = some (.int .u8 ((b.getD j 0).toNat : Int)) := by
     have h := t2 j (by rw [List.length_map]; exact hjb)
     rw [zbb hjb] at h
     rw [← h]
     exact HE.out.cell (p := ⟨g2, o2 + j, none⟩) s2
    have x1 := xor_u8 (a.getD j 0) (b.getD j 0)
    have hy := (a.getD j 0 ^^^ b.getD j 0).toNat_lt
    have x2 := or_i64 (apartN a b j) (a.getD j 0 ^^^ b.getD j 0).toNat (HLT.out j) (Nat.lt_trans hy (by decide))
    have e2 : (apartN a b j ||| (a.getD j 0 ^^^ b.getD j 0).toNat) = apartN a b (j + 1) := rfl
    rw [e2] at x2
    have w1 : IntKind.i64.wrap (((a.getD j 0 ^^^ b.getD j 0).toNat : Nat) : Int) = ((a.getD j 0 ^^^ b.getD j 0).toNat : Int) := by rw [IntKind.wrap_i64]; omega
    have S1 := jh s1
    have S2 := jh s2
    clear e2 s1 s2 t1 t2 HSAME HLT HMB HCA HCB
    generalize (a.getD j 0 ^^^ b.getD j 0).toNat = y at *
    generalize (a.getD j 0).toNat = y1 at *
    generalize (b.getD j 0).toNat = y2 at *
    generalize hz : apartN a b (j + 1) = z at *
    generalize apartN a b j = z0 at *
    have HZ := jh hz
    clear hz
    go_wp2_with fail
    go_region
    go_wp2_with fail
    go_roundw
    case rel => exact ⟨j + 1, by omega, by rw [HZ.out], by go_num, HE.out.trans (Ext.drew _)⟩
    case measure => simp [intOf]; omega
   ·obtain rfl : j = m := by omega
    have hge : ¬ (j : Int) < (a.length : Int) ∨ ¬ (j : Int) < (b.length : Int) := by rcases HMB.out with h | h <;> omega
    rcases Nat.eq_zero_or_pos (apartN a b j) with hz | hz
    ·have e : decide (a = b) = true := decide_eq_true (HSAME.out.1 hz)
     have t0 : ((apartN a b j : Nat) : Int) = 0 := by omega
     have HD := jh e
     clear e HSAME
     generalize apartN a b j = z at *
     subst hz
     go_wp2_with fail
     go_ret
     exact ⟨by rw [HD.out]; rfl, HE.out⟩
    ·have e : decide (a = b) = false := decide_eq_false (fun h => by have := HSAME.out.2 h; omega)
     have t0 : (((apartN a b j : Nat) : Int) == 0) = false := by simp; omega
     have HD := jh e
     clear e HSAME
     generalize apartN a b j = z at *
     go_wp2_with fail
     go_ret
     exact ⟨by rw [HD.out]; rfl, HE.out⟩
def fA (l : List UInt8) (k : Nat) : List UInt8 := l ++ List.replicate k 0
theorem fA_succ (l : List UInt8) (k : Nat) : fA l (k + 1) = fA l k ++ [0] := by
 unfold fA
 rw [List.replicate_succ', List.append_assoc]
theorem fA_length (l : List UInt8) (k : Nat) : (fA l k).length = l.length + k := by simp [fA]
theorem fA_full (l : List UInt8) : fA l ((16 - l.length % 16) % 16) = l ++ z16 l.length := rfl
theorem bytesN_succ : ∀ (k n : Nat), bytesN (k + 1) n = bytesN k n ++ [UInt8.ofNat (n / 256 ^ k % 256)] := fun k n => by
 have h := zds k 1 n
 rw [h]
 congr 1
theorem and_i64_3 (a : Int) (h1 : -9223372036854775808 ≤ a) (h2 : a ≤ 9223372036854775807) : bits .and .i64 a 3 = a % 4 := by
 have h : (BitVec.ofInt 64 3).toNat = 2 ^ 2 - 1 := by decide
 have key : (BitVec.ofInt 64 a &&& BitVec.ofInt 64 3).toNat = (a % ((2 ^ 64 : Nat) : Int)).toNat % 2 ^ 2 := by
  rw [BitVec.toNat_and, BitVec.toNat_ofInt, h, Nat.and_two_pow_sub_one_eq_mod]
 show IntKind.i64.wrap ((BitVec.ofInt 64 a &&& BitVec.ofInt 64 3).toNat : Nat) = _
 rw [key, IntKind.wrap_i64]
 omega
def qN (h : List Int) : Nat → List Int
 | 0 => h
 | k + 1 => qPass (qN h k)
theorem qN_length (h : List Int) : ∀ k, (qN h k).length = h.length
 | 0 => rfl
 | k + 1 => by rw [qN, qPass_length, qN_length h k]
theorem qN_three (h : List Int) : qN h 3 = qThree h := rfl
theorem qPass_le (h : List Int) (hl : h.length = 17) {M : Int} (hM : 255 ≤ M) (hn : ∀ i, 0 ≤ h.getD i 0 ∧ h.getD i 0 ≤ M) : ∀ i, 0 ≤ (qPass h).getD i 0 ∧ (qPass h).getD i 0 ≤ 4 * M := by
 intro i
 refine ⟨qPass_nonneg h hl (fun i => (hn i).1) i, ?_⟩
 have hlen : (zaq h 16).1.length = 17 := by rw [zbt, hl]
 have hs := qRun_small h hl 16 (Nat.le_refl _)
 have hu := qRun_top h hn 16
 have hu0 := qRun_nonneg h (fun i => (hn i).1) 16
 have h16 := hn 16
 unfold qPass
 by_cases e : i = 0
 ·subst e
  rw [zan (by simp [hlen])]
  have := hs 0 (by omega)
  omega
 ·rw [zah (by omega)]
  by_cases e2 : i = 16
  ·subst e2
   rw [zan (by omega)]
   omega
  ·rw [zah (by omega)]
   rcases Nat.lt_or_ge i 16 with h | h
   ·have := (hs i h).2
    omega
   ·rw [getD_out (by omega)]
    omega
theorem qN_le (h : List Int) (hl : h.length = 17) (hn : ∀ i, 0 ≤ h.getD i 0 ∧ h.getD i 0 ≤ 1099511627776) (k : Nat) (hk : k ≤ 3) : ∀ i, 0 ≤ (qN h k).getD i 0 ∧ (qN h k).getD i 0 ≤ 70368744177664 := by
 have l1 : (qN h 1).length = 17 := by rw [qN_length, hl]
 have l2 : (qN h 2).length = 17 := by rw [qN_length, hl]
 have b1 := qPass_le h hl (by omega) hn
 have b2 := qPass_le (qN h 1) l1 (by omega) b1
 have b3 := qPass_le (qN h 2) l2 (by omega) b2
 intro i
 rcases (by omega : k = 0 ∨ k = 1 ∨ k = 2 ∨ k = 3) with rfl | rfl | rfl | rfl
 ·have := hn i
  exact ⟨this.1, Int.le_trans this.2 (by decide)⟩
 ·exact ⟨(b1 i).1, Int.le_trans (b1 i).2 (by decide)⟩
 ·exact ⟨(b2 i).1, Int.le_trans (b2 i).2 (by decide)⟩
 ·exact ⟨(b3 i).1, Int.le_trans (b3 i).2 (by decide)⟩
theorem zbs {w : World} {S i : Nat} {l : List Int} {t : TypeId} (h : Blk w S (ints .i64 l) t) (hi : i < l.length) : w.cell? ⟨S, i, none⟩ = some (.int .i64 (l.getD i 0)) := by
 rw [h.cell, zav hi]
theorem tCo_lo (r : List Int) {i j : Nat} (h : j ≤ i) : tCo r i j = r.getD (i - j) 0 := by unfold tCo; rw [if_pos h]
theorem tCo_hi (r : List Int) {i j : Nat} (h : i < j) : tCo r i j = 320 * r.getD (i + 17 - j) 0 := by unfold tCo; rw [if_neg (by omega)]
theorem tList_le {h r : List Int} (hh : ∀ i, 0 ≤ h.getD i 0 ∧ h.getD i 0 ≤ 1024) (hr : ∀ i, 0 ≤ r.getD i 0 ∧ r.getD i 0 ≤ 255) : ∀ i, 0 ≤ (tList h r 17).getD i 0 ∧ (tList h r 17).getD i 0 ≤ 1420492800 := fun i => by
 rw [tList_getD h r 17 (Nat.le_refl _)]
 split
 ·have := tRun_bound hh hr i 17
  omega
 ·omega
theorem can17_le {h : List Int} (hc : Can17 h) : ∀ i, 0 ≤ h.getD i 0 ∧ h.getD i 0 ≤ 1099511627776 := fun i => by
 have := hc.digit i
 omega
theorem can17_three {h : List Int} (hc : Can17 h) : Can17 (qThree h) ∧ gV 256 (qThree h) % (pQ : Int) = gV 256 h % (pQ : Int) :=
 qThree_val h hc.1 (fun i => (hc.digit i).1) (by have := hc.range.2; unfold two130 at this; omega)
theorem wOut_length {h : List Int} (hc : Can17 h) : (wOut h).length = 17 := (wOut_val hc).1
theorem Tryz.arr53 : (Tryz.prog.info? 53).map (·.size) = some 16 := by kernel_rfl
theorem tag_size {l : List UInt8} (h : l.length = 16) : (Tryz.prog.info? 53).map (·.size) = some (l.map bval).length := by rw [List.length_map, h]; exact Tryz.arr53
theorem and_i64_15 (a : Int) (h1 : -9223372036854775808 ≤ a) (h2 : a ≤ 9223372036854775807) : bits .and .i64 a 15 = a % 16 := by
 have h : (BitVec.ofInt 64 15).toNat = 2 ^ 4 - 1 := by decide
 have key : (BitVec.ofInt 64 a &&& BitVec.ofInt 64 15).toNat = (a % ((2 ^ 64 : Nat) : Int)).toNat % 2 ^ 4 := by
  rw [BitVec.toNat_and, BitVec.toNat_ofInt, h, Nat.and_two_pow_sub_one_eq_mod]
 show IntKind.i64.wrap ((BitVec.ofInt 64 a &&& BitVec.ofInt 64 15).toNat : Nat) = _
 rw [key, IntKind.wrap_i64]
 omega
theorem and_252_fin : ∀ n : Fin 256, bits .and .i64 (n.val : Int) 252 = (n.val : Int) / 4 * 4 := by decide +kernel
theorem and_i64_252 (a : Int) (h1 : 0 ≤ a) (h2 : a ≤ 255) : bits .and .i64 a 252 = a / 4 * 4 := by
 obtain ⟨n, rfl⟩ : ∃ n : Nat, a = (n : Int) := ⟨a.toNat, by omega⟩
 exact and_252_fin ⟨n, by omega⟩
theorem can17_zero : Can17 (List.replicate 17 0) := ⟨by simp, fun i hi => by rw [getD_eq (by simp; omega), List.getElem_replicate]; omega, by decide, by decide⟩
theorem can17_255 {h : List Int} (hc : Can17 h) : ∀ i, 0 ≤ h.getD i 0 ∧ h.getD i 0 ≤ 255 := fun i => by
 have := hc.digit i
 omega
theorem byte_one : (Tryz.prog.info? 5).map (·.size) = some 1 := by kernel_rfl
theorem fill_two (s c : List UInt8) : (s ++ z16 s.length ++ c) ++ z16 (s ++ z16 s.length ++ c).length = s ++ (z16 s.length ++ (c ++ z16 c.length)) := by
 have e : z16 (s ++ z16 s.length ++ c).length = z16 c.length := by
  unfold z16
  simp only [List.length_append, List.length_replicate]
  congr 1
  omega
 rw [e]
 simp [List.append_assoc]
theorem aeaMsg_length (c s : List UInt8) : (aeaMsg c s).length ≤ c.length + s.length + 46 := by
 unfold aeaMsg
 simp only [List.length_append, z16_length, zaz]
 omega
theorem res_two {fn : Func} {i j : Nat} (hf : fn.results = #[.tmp i, .tmp j]) (tmps : Array Value) (w : World) :
  (results fn tmps).run Tryz.prog w = .ok (.tuple #[tmps.getD i undef, tmps.getD j undef]) w := by
 unfold results
 rw [hf]
 simp
end Go.Proofs.YtimmnieopifcbaaGreatDoor
