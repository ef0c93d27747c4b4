/- What the document's own Poly makes of its digits: the key's, a block's, their sum, the tag's bytes. No program. Each theorem names its own conditions. -/
import Derived.Test.YtjnnhkodkbhbbaaPolT
import Derived.Test.YtjnnhkodkbhbbaaPolSpec
namespace Go.Proofs.Ytjnnhkodkbhbbaa
open Go.RowKit
set_option linter.unusedVariables false
set_option linter.unusedSimpArgs false

theorem gV_le {M : Int} (hM : 0 ≤ M) : ∀ {zs : List Int}, (∀ i, 0 ≤ zs.getD i 0 ∧ zs.getD i 0 ≤ M) → 255 * gV 256 zs + M ≤ M * 256 ^ zs.length
  | [], _ => by simp [gV]
  | z :: r, h => by
    have h0 := h 0
    simp only [List.getD_cons_zero] at h0
    have ih := gV_le hM (zs := r) (fun i => by have := h (i + 1); simpa using this)
    simp only [gV, List.length_cons, Int.pow_succ]
    generalize gV 256 r = V at *
    generalize hB : (256 : Int) ^ r.length = B at *
    have e : M * (B * 256) = 256 * (M * B) := by rw [← Int.mul_assoc, Int.mul_comm]
    rw [e]
    generalize M * B = X at *
    omega
theorem gV_nonneg : ∀ {zs : List Int}, (∀ i, 0 ≤ zs.getD i 0) → 0 ≤ gV 256 zs
  | [], _ => Int.le_refl _
  | z :: r, h => by
    have h0 := h 0
    simp only [List.getD_cons_zero] at h0
    have ih := gV_nonneg (zs := r) (fun i => by have := h (i + 1); simpa using this)
    simp only [gV]
    omega
/-- A product, carried. -/
theorem mul17 {h r : List Int} (hl : h.length = 17) (rl : r.length = 17) (hh : ∀ i, 0 ≤ h.getD i 0 ∧ h.getD i 0 ≤ 1024) (hr : ∀ i, 0 ≤ r.getD i 0 ∧ r.getD i 0 ≤ 255) :
    Can17 (qThree (tList h r 17)) ∧ gV 256 (qThree (tList h r 17)) % (pQ : Int) = gV 256 h * gV 256 r % (pQ : Int) := by
  have hle : ∀ i, 0 ≤ (tList h r 17).getD i 0 ∧ (tList h r 17).getD i 0 ≤ 1420492800 := fun i => by
    rw [tList_getD h r 17 (Nat.le_refl _)]
    split
    · have := tRun_bound hh hr i 17
      omega
    · omega
  have hlen := tList_length h r 17
  have hb := gV_le (by omega) hle
  rw [hlen, show (256 : Int) ^ 17 = 87112285931760246646623899502532662132736 from by decide +kernel] at hb
  have hq := qThree_val (tList h r 17) hlen (fun i => (hle i).1) (by omega)
  exact ⟨hq.1, hq.2.trans (tList_val hl rl)⟩

/-- The key's digits, as they are laid. -/
def rA (key : List UInt8) : Nat → List Int
  | 0 => List.replicate 17 0
  | k + 1 => (rA key k).set k ((key.getD k 0).toNat : Int)
def rB (key : List UInt8) : Nat → List Int
  | 0 => rA key 16
  | k + 1 => (rB key k).set (3 + 4 * k) ((rB key k).getD (3 + 4 * k) 0 % 16)
def rC (key : List UInt8) : Nat → List Int
  | 0 => rB key 4
  | k + 1 => (rC key k).set (4 + 4 * k) ((rC key k).getD (4 + 4 * k) 0 / 4 * 4)
theorem rA_length (key : List UInt8) : ∀ k, (rA key k).length = 17
  | 0 => by simp [rA]
  | k + 1 => by rw [rA, List.length_set, rA_length key k]
theorem rB_length (key : List UInt8) : ∀ k, (rB key k).length = 17
  | 0 => rA_length key 16
  | k + 1 => by rw [rB, List.length_set, rB_length key k]
theorem rC_length (key : List UInt8) : ∀ k, (rC key k).length = 17
  | 0 => rB_length key 4
  | k + 1 => by rw [rC, List.length_set, rC_length key k]
theorem rA_digit (key : List UInt8) : ∀ k i, 0 ≤ (rA key k).getD i 0 ∧ (rA key k).getD i 0 ≤ 255
  | 0, i => by
    rcases Nat.lt_or_ge i 17 with hi | hi
    · rw [rA, getD_eq (by simp; exact hi), List.getElem_replicate]
      omega
    · rw [getD_out (by simp [rA]; exact hi)]
      omega
  | k + 1, i => by
    rw [rA]
    by_cases e : i = k
    · subst e
      rcases Nat.lt_or_ge i 17 with hi | hi
      · rw [getD_set_same (by rw [rA_length]; exact hi)]
        have := (key.getD i 0).toNat_lt
        omega
      · rw [getD_out (by rw [List.length_set, rA_length]; exact hi)]
        omega
    · rw [getD_set_far (by omega)]
      exact rA_digit key k i
theorem rB_digit (key : List UInt8) : ∀ k i, k ≤ 4 → 0 ≤ (rB key k).getD i 0 ∧ (rB key k).getD i 0 ≤ 255
  | 0, i, _ => rA_digit key 16 i
  | k + 1, i, hk => by
    rw [rB]
    have ih := rB_digit key k
    by_cases e : i = 3 + 4 * k
    · subst e
      rw [getD_set_same (by rw [rB_length]; omega)]
      have := ih (3 + 4 * k) (by omega)
      omega
    · rw [getD_set_far (by omega)]
      exact ih i (by omega)
theorem rC_digit (key : List UInt8) : ∀ k i, k ≤ 3 → 0 ≤ (rC key k).getD i 0 ∧ (rC key k).getD i 0 ≤ 255
  | 0, i, _ => rB_digit key 4 i (by omega)
  | k + 1, i, hk => by
    rw [rC]
    have ih := rC_digit key k
    by_cases e : i = 4 + 4 * k
    · subst e
      rw [getD_set_same (by rw [rC_length]; omega)]
      have := ih (4 + 4 * k) (by omega)
      omega
    · rw [getD_set_far (by omega)]
      exact ih i (by omega)
theorem rA_getD (key : List UInt8) : ∀ k, k ≤ 17 → ∀ i, (rA key k).getD i 0 = if i < k then ((key.getD i 0).toNat : Int) else 0
  | 0, _, i => by
    rw [if_neg (by omega)]
    rcases Nat.lt_or_ge i 17 with hi | hi
    · rw [rA, getD_eq (by simp; exact hi), List.getElem_replicate]
    · rw [getD_out (by simp [rA]; exact hi)]
  | k + 1, hk, i => by
    rw [rA]
    by_cases e : i = k
    · subst e
      rw [getD_set_same (by rw [rA_length]; omega), if_pos (by omega)]
    · rw [getD_set_far (by omega), rA_getD key k (by omega) i]
      by_cases h : i < k
      · rw [if_pos h, if_pos (by omega)]
      · rw [if_neg h, if_neg (by omega)]
theorem rB_getD (key : List UInt8) : ∀ k, k ≤ 4 → ∀ i, (rB key k).getD i 0 = if i % 4 = 3 ∧ i < 3 + 4 * k then (rA key 16).getD i 0 % 16 else (rA key 16).getD i 0
  | 0, _, i => by rw [if_neg (by omega)]; rfl
  | k + 1, hk, i => by
    rw [rB]
    by_cases e : i = 3 + 4 * k
    · subst e
      rw [getD_set_same (by rw [rB_length]; omega), rB_getD key k (by omega), if_neg (by omega), if_pos (by omega)]
    · rw [getD_set_far (by omega), rB_getD key k (by omega) i]
      by_cases h : i % 4 = 3 ∧ i < 3 + 4 * k
      · rw [if_pos h, if_pos (by omega)]
      · rw [if_neg h, if_neg (by omega)]
theorem rC_getD (key : List UInt8) : ∀ k, k ≤ 3 → ∀ i, (rC key k).getD i 0 = if i % 4 = 0 ∧ 4 ≤ i ∧ i < 4 + 4 * k then (rB key 4).getD i 0 / 4 * 4 else (rB key 4).getD i 0
  | 0, _, i => by rw [if_neg (by omega)]; rfl
  | k + 1, hk, i => by
    rw [rC]
    by_cases e : i = 4 + 4 * k
    · subst e
      rw [getD_set_same (by rw [rC_length]; omega), rC_getD key k (by omega), if_neg (by omega), if_pos (by omega)]
    · rw [getD_set_far (by omega), rC_getD key k (by omega) i]
      by_cases h : i % 4 = 0 ∧ 4 ≤ i ∧ i < 4 + 4 * k
      · rw [if_pos h, if_pos (by omega)]
      · rw [if_neg h, if_neg (by omega)]
theorem pDigits_length (key : List UInt8) : (pDigits key).length = 16 := by simp [pDigits]
theorem pDigits_getD (key : List UInt8) {i : Nat} (h : i < 16) : (pDigits key).getD i 0 = (pDigit key i : Int) := by
  simp [pDigits, List.getD, h]
theorem rC_full (key : List UInt8) : rC key 3 = pDigits key ++ [0] := by
  apply ext_getD (by rw [rC_length, List.length_append, pDigits_length]; rfl)
  intro i hi
  rw [rC_length] at hi
  rw [rC_getD key 3 (by omega), rB_getD key 4 (by omega), rA_getD key 16 (by omega)]
  rcases Nat.lt_or_ge i 16 with h | h
  · have e : (pDigits key ++ [0]).getD i 0 = (pDigit key i : Int) := by
      rw [← pDigits_getD key h]
      simp [List.getD, List.getElem?_append_left (show i < (pDigits key).length by rw [pDigits_length]; exact h)]
    rw [e, if_pos h]
    unfold pDigit
    generalize (key.getD i 0).toNat = x
    by_cases h3 : i % 4 = 3
    · rw [if_neg (by omega), if_pos (by omega), if_pos (by omega)]
      omega
    · by_cases h0 : i % 4 = 0 ∧ 4 ≤ i
      · rw [if_pos (by omega), if_neg (by omega), if_neg (by omega), if_pos (by omega)]
        omega
      · rw [if_neg (by omega), if_neg (by omega), if_neg (by omega), if_neg (by omega)]
  · have h16 : i = 16 := by omega
    subst h16
    rw [if_neg (by omega), if_neg (by omega), if_neg (by omega)]
    simp [List.getD, pDigits_length]
theorem rC_val (key : List UInt8) : gV 256 (rC key 3) = pR key := by
  rw [rC_full, gV_append]
  simp [gV, pR]

/-- A block's digits: the bytes as far as i; then a 1 behind. -/
def cA (b : List UInt8) (n : Nat) : Nat → List Int
  | 0 => List.replicate 17 0
  | i + 1 => (cA b n i).set i ((b.getD (16 * n + i) 0).toNat : Int)
theorem cA_length (b : List UInt8) (n : Nat) : ∀ k, (cA b n k).length = 17
  | 0 => by simp [cA]
  | k + 1 => by rw [cA, List.length_set, cA_length b n k]
theorem cA_getD (b : List UInt8) (n : Nat) : ∀ k, k ≤ 17 → ∀ i, (cA b n k).getD i 0 = if i < k then ((b.getD (16 * n + i) 0).toNat : Int) else 0
  | 0, _, i => by
    rw [if_neg (by omega)]
    rcases Nat.lt_or_ge i 17 with hi | hi
    · rw [cA, getD_eq (by simp; exact hi), List.getElem_replicate]
    · rw [getD_out (by simp [cA]; exact hi)]
  | k + 1, hk, i => by
    rw [cA]
    by_cases e : i = k
    · subst e
      rw [getD_set_same (by rw [cA_length]; omega), if_pos (by omega)]
    · rw [getD_set_far (by omega), cA_getD b n k (by omega) i]
      by_cases h : i < k
      · rw [if_pos h, if_pos (by omega)]
      · rw [if_neg h, if_neg (by omega)]
theorem gV_cA (b : List UInt8) (n : Nat) : ∀ k, k ≤ 16 → 16 * n + k ≤ b.length → gV 256 (cA b n k) = ((leN ((b.drop (16 * n)).take k) : Nat) : Int)
  | 0, _, _ => by
    rw [cA, gV_zeros]
    simp [leN]
  | k + 1, hk, hb => by
    rw [cA, gV_set _ _ _ _ (by rw [cA_length]; omega), gV_cA b n k (by omega) (by omega), cA_getD b n k (by omega) k, if_neg (by omega)]
    have e : (b.drop (16 * n)).take (k + 1) = (b.drop (16 * n)).take k ++ [b.getD (16 * n + k) 0] := by
      rw [List.take_succ_eq_append_getElem (by rw [List.length_drop]; omega)]
      congr 2
      rw [List.getElem_drop]
      simp [List.getD, show 16 * n + k < b.length by omega]
    rw [e, ← gV_bytes, ← gV_bytes, List.map_append, gV_append]
    have e2 : (((b.drop (16 * n)).take k).map fun b => (b.toNat : Int)).length = k := by
      rw [List.length_map, List.length_take, List.length_drop]
      omega
    rw [e2]
    simp only [List.map_cons, List.map_nil, gV]
    generalize (256 : Int) ^ k = B
    generalize ((b.getD (16 * n + k) 0).toNat : Int) = z
    rw [Int.sub_zero, Int.mul_zero, Int.add_zero, Int.mul_comm]
/-- With the 1 behind, it is the block's number. -/
theorem gV_blk (b : List UInt8) (n : Nat) (hb : 16 * n < b.length) : gV 256 ((cA b n (min 16 (b.length - 16 * n))).set (min 16 (b.length - 16 * n)) 1) = pBlk b n := by
  have h16 : min 16 (b.length - 16 * n) ≤ 16 := by omega
  rw [gV_set _ _ _ _ (by rw [cA_length]; omega), gV_cA b n _ h16 (by omega), cA_getD b n _ (by omega) _, if_neg (by omega)]
  unfold pBlk
  have e : (b.drop (16 * n)).take (min 16 (b.length - 16 * n)) = (b.drop (16 * n)).take 16 := by
    rcases Nat.lt_or_ge (b.length - 16 * n) 16 with h | h
    · rw [Nat.min_eq_right (by omega), List.take_of_length_le (by rw [List.length_drop]; omega), List.take_of_length_le (by rw [List.length_drop]; omega)]
    · rw [Nat.min_eq_left h]
  rw [e]
  generalize (256 : Int) ^ (min 16 (b.length - 16 * n)) = B
  omega
theorem blk_digit (b : List UInt8) (n m : Nat) (hm : m ≤ 16) (i : Nat) : 0 ≤ ((cA b n m).set m 1).getD i 0 ∧ ((cA b n m).set m 1).getD i 0 ≤ 255 := by
  by_cases e : i = m
  · subst e
    rw [getD_set_same (by rw [cA_length]; omega)]
    omega
  · rw [getD_set_far (by omega), cA_getD b n m (by omega)]
    split
    · have := (b.getD (16 * n + i) 0).toNat_lt
      omega
    · omega

/-- A sum, digit by digit. -/
def sA (h c : List Int) : Nat → List Int
  | 0 => h
  | i + 1 => (sA h c i).set i ((sA h c i).getD i 0 + c.getD i 0)
theorem sA_length (h c : List Int) : ∀ k, (sA h c k).length = h.length
  | 0 => rfl
  | k + 1 => by rw [sA, List.length_set, sA_length h c k]
theorem sA_far (h c : List Int) : ∀ k j, k ≤ j → (sA h c k).getD j 0 = h.getD j 0
  | 0, _, _ => rfl
  | k + 1, j, hj => by rw [sA, getD_set_far (by omega), sA_far h c k j (by omega)]
theorem sA_val (h c : List Int) (hl : h.length = c.length) : ∀ k, k ≤ c.length → gV 256 (sA h c k) = gV 256 h + gV 256 (c.take k)
  | 0, _ => by simp [sA, gV]
  | k + 1, hk => by
    rw [sA, gV_set _ _ _ _ (by rw [sA_length]; omega), sA_val h c hl k (by omega), gV_take_succ 256 c k (by omega)]
    have : (sA h c k).getD k 0 + c.getD k 0 - (sA h c k).getD k 0 = c.getD k 0 := by omega
    rw [this]
    omega
theorem sA_full (h c : List Int) (hl : h.length = 17) (cl : c.length = 17) : gV 256 (sA h c 17) = gV 256 h + gV 256 c := by
  rw [sA_val h c (by omega) 17 (by omega), List.take_of_length_le (by omega)]
theorem sA_digit (h c : List Int) (hl : h.length = 17) (hh : ∀ i, 0 ≤ h.getD i 0 ∧ h.getD i 0 ≤ 255) (hc : ∀ i, 0 ≤ c.getD i 0 ∧ c.getD i 0 ≤ 255) : ∀ k i, 0 ≤ (sA h c k).getD i 0 ∧ (sA h c k).getD i 0 ≤ 1024
  | 0, i => by
    have := hh i
    exact ⟨this.1, Int.le_trans this.2 (by decide)⟩
  | k + 1, i => by
    rw [sA]
    by_cases e : i = k
    · subst e
      rcases Nat.lt_or_ge i 17 with hi | hi
      · rw [getD_set_same (by rw [sA_length]; omega), sA_far h c i i (Nat.le_refl _)]
        have := hh i
        have := hc i
        omega
      · rw [getD_out (by rw [List.length_set, sA_length]; omega)]
        omega
    · rw [getD_set_far (by omega)]
      exact sA_digit h c hl hh hc k i

end Go.Proofs.Ytjnnhkodkbhbbaa
