/- The plain arithmetic of float64 words that stand for whole numbers: what their sums, products, comparisons and cuts stand for. Each theorem names its own conditions; nothing here speaks of a program. -/
import Derived.WalkLawsBesides
namespace Go.Proofs.Ytpfjepmdnhmnaaa
open Ieee

/-- 'M * 2 ^ p' is the whole number n. -/
def HasVal (M : Nat) (p : Int) (n : Nat) : Prop := ∃ K : Nat, 0 ≤ p + K ∧ M * 2 ^ (p + K).toNat = n * 2 ^ K

theorem HasVal.at {M : Nat} {p : Int} {n : Nat} (h : HasVal M p n) (K : Nat) (hK : 0 ≤ p + K) : M * 2 ^ (p + K).toNat = n * 2 ^ K := by
  obtain ⟨K0, h0, e⟩ := h
  rcases Nat.le_total K0 K with hle | hle
  · obtain ⟨d, rfl⟩ := Nat.exists_eq_add_of_le hle
    have : (p + ((K0 + d : Nat) : Int)).toNat = (p + (K0 : Int)).toNat + d := by omega
    rw [this, Nat.pow_add, Nat.pow_add, ← Nat.mul_assoc, ← Nat.mul_assoc, e]
  · obtain ⟨d, rfl⟩ := Nat.exists_eq_add_of_le hle
    have : (p + ((K + d : Nat) : Int)).toNat = (p + (K : Int)).toNat + d := by omega
    rw [this, Nat.pow_add, Nat.pow_add, ← Nat.mul_assoc, ← Nat.mul_assoc] at e
    exact Nat.eq_of_mul_eq_mul_right (Nat.two_pow_pos d) e

theorem HasVal.unique {M : Nat} {p : Int} {n n' : Nat} (h : HasVal M p n) (h' : HasVal M p n') : n = n' := by
  obtain ⟨K, hK, e⟩ := h
  have e' := h'.at K hK
  exact Nat.eq_of_mul_eq_mul_right (Nat.two_pow_pos K) (e.symm.trans e')

theorem HasVal.zero_iff {M : Nat} {p : Int} {n : Nat} (h : HasVal M p n) : M = 0 ↔ n = 0 := by
  obtain ⟨K, hK, e⟩ := h
  have a := Nat.two_pow_pos (p + (K : Int)).toNat
  have b := Nat.two_pow_pos K
  constructor
  · rintro rfl
    rw [Nat.zero_mul] at e
    rcases Nat.mul_eq_zero.1 e.symm with h | h
    · exact h
    · omega
  · rintro rfl
    rw [Nat.zero_mul] at e
    rcases Nat.mul_eq_zero.1 e with h | h
    · exact h
    · omega

theorem HasVal.zero (p : Int) : HasVal 0 p 0 := ⟨(-p).toNat, by omega, by simp⟩

theorem HasVal.mul {M N : Nat} {p q : Int} {a b : Nat} (h : HasVal M p a) (g : HasVal N q b) : HasVal (M * N) (p + q) (a * b) := by
  obtain ⟨K, hK, e⟩ := h
  obtain ⟨J, hJ, f⟩ := g
  refine ⟨K + J, by omega, ?_⟩
  have : (p + q + ((K + J : Nat) : Int)).toNat = (p + (K : Int)).toNat + (q + (J : Int)).toNat := by omega
  rw [this, Nat.pow_add, Nat.pow_add, show M * N * (2 ^ (p + (K : Int)).toNat * 2 ^ (q + (J : Int)).toNat) = (M * 2 ^ (p + (K : Int)).toNat) * (N * 2 ^ (q + (J : Int)).toNat) from by ac_rfl, e, f]
  ac_rfl

/-- A datum that stands for the whole number n; a nought may bear either sign. -/
def Dv (d : Datum) (n : Nat) : Prop := ∃ s M p, d = .number s M p ∧ HasVal M p n ∧ (s = true → n = 0)

theorem Dv.unique {d : Datum} {n n' : Nat} (h : Dv d n) (h' : Dv d n') : n = n' := by
  obtain ⟨s, M, p, rfl, hv, _⟩ := h
  obtain ⟨s', M', p', e, hv', _⟩ := h'
  cases e
  exact hv.unique hv'

/-- A word that stands for the whole number n. -/
def Nv (x n : Nat) : Prop := Dv (double.read x) n

theorem Nv.unique {x n n' : Nat} (h : Nv x n) (h' : Nv x n') : n = n' := Dv.unique h h'

theorem log2_spec {M k : Nat} (h1 : 2 ^ k ≤ M) (h2 : M < 2 ^ (k + 1)) : M.log2 = k := by
  have : M ≠ 0 := by have := Nat.two_pow_pos k; omega
  exact (Nat.log2_eq_iff this).2 ⟨h1, h2⟩

theorem log2_bd {M : Nat} (h : M ≠ 0) : 2 ^ M.log2 ≤ M ∧ M < 2 ^ (M.log2 + 1) := (Nat.log2_eq_iff h).1 rfl

/-- The number of binary digits of what 'M * 2 ^ p' is. -/
theorem HasVal.log2 {M : Nat} {p : Int} {n : Nat} (h : HasVal M p n) (hn : n ≠ 0) : (M.log2 : Int) + p = n.log2 := by
  have hM : M ≠ 0 := fun e => hn (h.zero_iff.1 e)
  obtain ⟨K, hK, e⟩ := h
  obtain ⟨a, b⟩ := log2_bd hM
  obtain ⟨c, d⟩ := log2_bd hn
  have e1 : (M * 2 ^ (p + (K : Int)).toNat).log2 = M.log2 + (p + (K : Int)).toNat := by
    refine log2_spec ?_ ?_
    · rw [Nat.pow_add]; exact Nat.mul_le_mul_right _ a
    · rw [show M.log2 + (p + (K : Int)).toNat + 1 = (M.log2 + 1) + (p + (K : Int)).toNat from by omega, Nat.pow_add]
      exact Nat.mul_lt_mul_of_pos_right b (Nat.two_pow_pos _)
  have e2 : (n * 2 ^ K).log2 = n.log2 + K := by
    refine log2_spec ?_ ?_
    · rw [Nat.pow_add]; exact Nat.mul_le_mul_right _ c
    · rw [show n.log2 + K + 1 = (n.log2 + 1) + K from by omega, Nat.pow_add]
      exact Nat.mul_lt_mul_of_pos_right d (Nat.two_pow_pos _)
  rw [e, e2] at e1
  omega

/-- What is kept of 'M * 2 ^ p' in 53 binary digits. -/
theorem kept_of {M : Nat} {p : Int} {n : Nat} (h : HasVal M p n) (hn : n ≠ 0) :
    ∃ k, Toward.even.cut false (M <<< (p - ((n.log2 : Int) - 52)).toNat) (((n.log2 : Int) - 52) - p).toNat = k ∧ 2 ^ 52 ≤ k ∧ k ≤ 2 ^ 53 ∧ (n.log2 ≤ 52 → k = n * 2 ^ (52 - n.log2)) := by
  have hM : M ≠ 0 := fun e => hn (h.zero_iff.1 e)
  have hl := h.log2 hn
  obtain ⟨a, b⟩ := log2_bd hM
  rcases Int.le_total ((n.log2 : Int) - 52) p with hle | hle
  · -- nothing is dropped
    have hd : (((n.log2 : Int) - 52) - p).toNat = 0 := by omega
    rw [hd]
    refine ⟨_, rfl, ?_⟩
    have hs : M.log2 + (p - ((n.log2 : Int) - 52)).toNat = 52 := by omega
    have ec : ∀ x : Nat, Toward.even.cut false x 0 = x := by
      intro x; unfold Toward.cut; simp [Nat.mod_one]
    rw [ec, Nat.shiftLeft_eq]
    refine ⟨?_, ?_, ?_⟩
    · rw [← hs, Nat.pow_add]; exact Nat.mul_le_mul_right _ a
    · refine Nat.le_of_lt ?_
      rw [show 53 = (M.log2 + 1) + (p - ((n.log2 : Int) - 52)).toNat from by omega, Nat.pow_add]
      exact Nat.mul_lt_mul_of_pos_right b (Nat.two_pow_pos _)
    · intro hL
      have := h.at (52 - n.log2) (by omega)
      rw [← this]
      congr 2
      omega
  · have h0 : (p - ((n.log2 : Int) - 52)).toNat = 0 := by omega
    rw [h0, Nat.shiftLeft_zero]
    generalize hD : (((n.log2 : Int) - 52) - p).toNat = D
    have hs : M.log2 = 52 + D := by omega
    refine ⟨_, rfl, ?_⟩
    unfold Toward.cut
    rw [show min D (M.log2 + 2) = D from by omega, Nat.shiftLeft_eq, Nat.one_mul]
    simp only
    rw [hs, Nat.pow_add] at a
    rw [hs, show 52 + D + 1 = 53 + D from by omega, Nat.pow_add] at b
    have hp := Nat.two_pow_pos D
    have q1 : 2 ^ 52 ≤ M / 2 ^ D := (Nat.le_div_iff_mul_le hp).2 a
    have q2 : M / 2 ^ D < 2 ^ 53 := (Nat.div_lt_iff_lt_mul hp).2 b
    refine ⟨by omega, ?_, ?_⟩
    · generalize (decide (2 ^ D < 2 * (M % 2 ^ D)) || 2 ^ D == 2 * (M % 2 ^ D) && M / 2 ^ D % 2 == 1) = t
      cases t <;> simp <;> omega
    · intro hL
      have e := h.at (-p).toNat (by omega)
      have z : (p + ((-p).toNat : Int)).toNat = 0 := by omega
      rw [z, Nat.pow_zero, Nat.mul_one, show (-p).toNat = (52 - n.log2) + D from by omega, Nat.pow_add, ← Nat.mul_assoc] at e
      have m0 : M % 2 ^ D = 0 := by rw [e]; exact Nat.mul_mod_left _ _
      have d0 : M / 2 ^ D = n * 2 ^ (52 - n.log2) := by rw [e]; exact Nat.mul_div_cancel _ hp
      rw [m0, d0]
      have : ¬ 2 ^ D < 2 * 0 := by omega
      have t2 : (2 ^ D == 2 * 0) = false := by simp
      rw [t2]
      simp

/-- What a word with a full fraction reads as. -/
theorem read_full (L k : Nat) (hL : L < 500) (h1 : 2 ^ 52 ≤ k) (h2 : k ≤ 2 ^ 53) :
    ∃ M p, double.read ((L + 1022) * 2 ^ 52 + k) = .number false M p ∧ (M = k ∧ p = (L : Int) - 52 ∨ k = 2 ^ 53 ∧ M = 2 ^ 52 ∧ p = (L : Int) - 51) := by
  have sw : double.signWeight = 2 ^ 63 := rfl
  have bn : double.binade = 2 ^ 52 := rfl
  have ir : double.infRung = 2047 * 2 ^ 52 := rfl
  have lp : double.leastPlace = -1074 := rfl
  have lt : (L + 1022) * 2 ^ 52 + k < 2047 * 2 ^ 52 := by omega
  have hd : ((L + 1022) * 2 ^ 52 + k) / 2 ^ 63 % 2 = 0 := by omega
  have hm : ((L + 1022) * 2 ^ 52 + k) % 2 ^ 63 = (L + 1022) * 2 ^ 52 + k := by omega
  unfold Format.read
  simp only [sw, bn, ir, lp, hd, hm]
  rw [if_neg (by omega), if_pos lt]
  rcases Nat.lt_or_eq_of_le h2 with h2 | rfl
  · refine ⟨_, _, rfl, Or.inl ⟨by omega, by omega⟩⟩
  · refine ⟨_, _, rfl, Or.inr ⟨rfl, by omega, by omega⟩⟩

theorem read_zero : double.read 0 = .number false 0 (-1074) := rfl
theorem read_minus : double.read (2 ^ 63) = .number true 0 (-1074) := rfl

theorem Nv.nought : Nv 0 0 := ⟨_, _, _, read_zero, HasVal.zero _, fun _ => rfl⟩

/-- The word of the nearest, by its digits kept. -/
theorem near_word {M L k : Nat} {p : Int} (hM : M ≠ 0) (hL : L < 500) (hl : (M.log2 : Int) + p = L) (hk2 : k ≤ 2 ^ 53)
    (hk : Toward.even.cut false (M <<< (p - ((L : Int) - 52)).toNat) (((L : Int) - 52) - p).toNat = k) :
    double.nearest false M p = (L + 1022) * 2 ^ 52 + k := by
  have bn : double.binade = 2 ^ 52 := rfl
  have ir : double.infRung = 2047 * 2 ^ 52 := rfl
  have lp : double.leastPlace = -1074 := rfl
  have fb : double.fractionBits = 52 := rfl
  have hlast : max (p + (M.log2 : Int) - (52 : Nat)) (-1074) = (L : Int) - 52 := by omega
  have wd : ∀ n, double.word false n = n := fun _ => rfl
  unfold Format.nearest
  rw [if_neg hM, wd]
  simp only [bn, ir, lp, fb]
  rw [hlast, hk]
  have : (((L : Int) - 52) - -1074).toNat = L + 1022 := by omega
  rw [this]
  refine Nat.min_eq_left ?_
  have hk3 : k ≤ 2 * 2 ^ 52 := Nat.le_trans hk2 (by decide)
  clear hk
  generalize 2 ^ 52 = B at hk3 ⊢
  have e := Nat.mul_le_mul_right B (show L + 1022 ≤ 1521 by omega)
  omega

theorem log_lt {n k : Nat} (h0 : n ≠ 0) (h : n < 2 ^ k) : n.log2 < k := (Nat.log2_lt h0).2 h
theorem le_log {n k : Nat} (h0 : n ≠ 0) (h : 2 ^ k ≤ n) : k ≤ n.log2 := (Nat.le_log2 h0).2 h

theorem near_small {n k : Nat} {M' : Nat} {p' : Int} {x : Nat} (h0 : n ≠ 0) (h53 : n < 2 ^ 53) (hk : k = n * 2 ^ (52 - n.log2)) (k2 : k ≤ 2 ^ 53)
    (hr : double.read x = .number false M' p') (hc : M' = k ∧ p' = (n.log2 : Int) - 52 ∨ k = 2 ^ 53 ∧ M' = 2 ^ 52 ∧ p' = (n.log2 : Int) - 51) : Nv x n := by
  have hL := log_lt h0 h53
  have klt : k < 2 ^ 53 := by
    rw [hk, show (2 : Nat) ^ 53 = 2 ^ (n.log2 + 1) * 2 ^ (52 - n.log2) from by rw [← Nat.pow_add]; congr 1; omega]
    exact Nat.mul_lt_mul_of_pos_right (log2_bd h0).2 (Nat.two_pow_pos _)
  rcases hc with ⟨rfl, rfl⟩ | ⟨e, _, _⟩
  · refine ⟨_, _, _, hr, ⟨52 - n.log2, by omega, ?_⟩, by simp⟩
    have : ((n.log2 : Int) - 52 + ((52 - n.log2 : Nat) : Int)).toNat = 0 := by omega
    rw [this, hk, Nat.pow_zero, Nat.mul_one]
  · exact absurd klt (by rw [e]; exact Nat.lt_irrefl _)

theorem near_great {n k : Nat} {M' : Nat} {p' : Int} {x : Nat} (h0 : n ≠ 0) (h53 : 2 ^ 53 ≤ n) (k1 : 2 ^ 52 ≤ k) (k2 : k ≤ 2 ^ 53)
    (hr : double.read x = .number false M' p') (hc : M' = k ∧ p' = (n.log2 : Int) - 52 ∨ k = 2 ^ 53 ∧ M' = 2 ^ 52 ∧ p' = (n.log2 : Int) - 51) :
    ∃ c, Nv x c ∧ 2 ^ 53 ≤ c ∧ c ≤ 2 * n := by
  have hL := le_log h0 h53
  refine ⟨k * 2 ^ (n.log2 - 52), ⟨false, M', p', hr, ?_, by simp⟩, ?_, ?_⟩
  · refine ⟨0, by omega, ?_⟩
    rw [Nat.pow_zero, Nat.mul_one]
    rcases hc with ⟨rfl, rfl⟩ | ⟨rfl, rfl, rfl⟩
    · rw [show ((n.log2 : Int) - 52 + ((0 : Nat) : Int)).toNat = n.log2 - 52 from by omega]
    · rw [show ((n.log2 : Int) - 51 + ((0 : Nat) : Int)).toNat = n.log2 - 51 from by omega, ← Nat.pow_add, ← Nat.pow_add, show 52 + (n.log2 - 51) = 53 + (n.log2 - 52) from by omega]
  · rw [show (2 : Nat) ^ 53 = 2 ^ 52 * 2 ^ 1 from by rw [← Nat.pow_add]]
    exact Nat.mul_le_mul k1 (Nat.pow_le_pow_right (by omega) (by omega))
  · refine Nat.le_trans (Nat.mul_le_mul_right _ k2) ?_
    rw [← Nat.pow_add, show 53 + (n.log2 - 52) = n.log2 + 1 from by omega, Nat.pow_succ, Nat.mul_comm]
    exact Nat.mul_le_mul_left _ (log2_bd h0).1

/-- The nearest word to a whole number: that number, if it is below 2^53; else it is not below 2^53. -/
theorem nearest_val {s : Bool} {M : Nat} {p : Int} {n : Nat} (h : HasVal M p n) (hs : s = true → n = 0) (hn : n < 2 ^ 200) :
    ∃ c, Nv (double.nearest s M p) c ∧ (n < 2 ^ 53 → c = n) ∧ (2 ^ 53 ≤ n → 2 ^ 53 ≤ c ∧ c ≤ 2 * n) := by
  by_cases h0 : n = 0
  · subst h0
    have hM := h.zero_iff.2 rfl
    subst hM
    refine ⟨0, ?_, fun _ => rfl, fun h => absurd h (by decide)⟩
    unfold Format.nearest
    rw [if_pos rfl]
    cases s
    · exact Nv.nought
    · exact ⟨_, _, _, read_minus, HasVal.zero _, fun _ => rfl⟩
  · have hM : M ≠ 0 := fun e => h0 (h.zero_iff.1 e)
    have hs' : s = false := by cases s; rfl; exact absurd (hs rfl) h0
    subst hs'
    obtain ⟨k, hk, k1, k2, k3⟩ := kept_of h h0
    have hL : n.log2 < 500 := Nat.lt_trans (log_lt h0 hn) (by decide)
    rw [near_word hM hL (h.log2 h0) k2 hk]
    obtain ⟨M', p', hr, hc⟩ := read_full n.log2 k hL k1 k2
    rcases Nat.lt_or_ge n (2 ^ 53) with hn53 | hn53
    · have := log_lt h0 hn53
      exact ⟨n, near_small h0 hn53 (k3 (by omega)) k2 hr hc, fun _ => rfl, fun h => absurd hn53 (Nat.not_lt.2 h)⟩
    · obtain ⟨c, c1, c2, c3⟩ := near_great h0 hn53 k1 k2 hr hc
      exact ⟨c, c1, fun h => absurd h (Nat.not_lt.2 hn53), fun _ => ⟨c2, c3⟩⟩

/-- What a signed digit row stands for, brought to one place. -/
theorem signed_at {s : Bool} {M : Nat} {p base : Int} {n K : Nat} (h : HasVal M p n) (hs : s = true → n = 0) (hb : base ≤ p) (hK : 0 ≤ base + K) :
    signed s M (p - base).toNat * ((2 ^ (base + (K : Int)).toNat : Nat) : Int) = ((n * 2 ^ K : Nat) : Int) := by
  have e := h.at K (by omega)
  have hx : (p + (K : Int)).toNat = (p - base).toNat + (base + (K : Int)).toNat := by omega
  rw [hx, Nat.pow_add, ← Nat.mul_assoc] at e
  unfold signed
  rw [Nat.shiftLeft_eq]
  cases s
  · rw [← e]; simp
  · have n0 := hs rfl
    subst n0
    have := h.zero_iff.2 rfl
    subst this
    simp

theorem sum_val {d e : Datum} {a b : Nat} (hd : Dv d a) (he : Dv e b) : ∃ s M p, d.sum e = some (.number s M p) ∧ HasVal M p (a + b) ∧ (s = true → a + b = 0) := by
  obtain ⟨s, M, p, rfl, hv, hs⟩ := hd
  obtain ⟨t, N, q, rfl, hw, ht⟩ := he
  have e1 := signed_at (base := min p q) (K := (-(min p q)).toNat) hv hs (by omega) (by omega)
  have e2 := signed_at (base := min p q) (K := (-(min p q)).toNat) hw ht (by omega) (by omega)
  generalize hT : signed s M (p - min p q).toNat + signed t N (q - min p q).toNat = T
  have hpos : (0 : Int) < ((2 ^ (min p q + ((-(min p q)).toNat : Int)).toNat : Nat) : Int) := by
    have := Nat.two_pow_pos (min p q + ((-(min p q)).toNat : Int)).toNat; omega
  have eT : T * ((2 ^ (min p q + ((-(min p q)).toNat : Int)).toNat : Nat) : Int) = (((a + b) * 2 ^ (-(min p q)).toNat : Nat) : Int) := by
    rw [← hT, Int.add_mul, e1, e2, Nat.add_mul]; simp
  have hT0 : 0 ≤ T := by
    rcases Int.lt_or_le T 0 with h | h
    · have := Int.mul_neg_of_neg_of_pos h hpos
      omega
    · exact h
  refine ⟨_, _, _, rfl, ?_, ?_⟩
  · refine ⟨(-(min p q)).toNat, by omega, ?_⟩
    rw [hT]
    have : ((T.natAbs : Nat) : Int) = T := Int.natAbs_of_nonneg hT0
    have g : ((T.natAbs * 2 ^ (min p q + ((-(min p q)).toNat : Int)).toNat : Nat) : Int) = (((a + b) * 2 ^ (-(min p q)).toNat : Nat) : Int) := by
      rw [← eT, Int.natCast_mul, this]
    exact_mod_cast g
  · rw [hT]
    by_cases h0 : T = 0
    · intro _
      subst h0
      rw [Int.zero_mul] at eT
      have g : (a + b) * 2 ^ (-(min p q)).toNat = 0 := by exact_mod_cast eT.symm
      rcases Nat.mul_eq_zero.1 g with h | h
      · exact h
      · have := Nat.two_pow_pos (-(min p q)).toNat; omega
    · rw [if_neg h0]
      intro h
      have := of_decide_eq_true h
      omega

/-- The sum of two words that stand for whole numbers. -/
theorem add_val {x y a b : Nat} (hx : Nv x a) (hy : Nv y b) (hn : a + b < 2 ^ 200) :
    ∃ r c, double.add x y = some r ∧ Nv r c ∧ (a + b < 2 ^ 53 → c = a + b) ∧ (2 ^ 53 ≤ a + b → 2 ^ 53 ≤ c ∧ c ≤ 2 * (a + b)) := by
  obtain ⟨s, M, p, e, hv, hs⟩ := sum_val hx hy
  obtain ⟨c, h1, h2, h3⟩ := nearest_val hv hs hn
  exact ⟨_, c, by unfold Format.add; rw [e]; rfl, h1, h2, h3⟩

theorem opposite_val {d : Datum} (h : Dv d 0) : Dv d.opposite 0 := by
  obtain ⟨s, M, p, rfl, hv, _⟩ := h
  exact ⟨!s, M, p, rfl, hv, fun _ => rfl⟩

/-- A word less a nought. -/
theorem sub_val {x y a : Nat} (hx : Nv x a) (hy : Nv y 0) (hn : a < 2 ^ 200) :
    ∃ r c, double.sub x y = some r ∧ Nv r c ∧ (a < 2 ^ 53 → c = a) ∧ (2 ^ 53 ≤ a → 2 ^ 53 ≤ c ∧ c ≤ 2 * a) := by
  obtain ⟨s, M, p, e, hv, hs⟩ := sum_val hx (opposite_val hy)
  obtain ⟨c, h1, h2, h3⟩ := nearest_val hv hs (by omega)
  exact ⟨_, c, by unfold Format.sub; rw [e]; rfl, h1, h2, h3⟩

/-- The product of two words that stand for whole numbers. -/
theorem mul_val {x y a b : Nat} (hx : Nv x a) (hy : Nv y b) (hn : a * b < 2 ^ 200) :
    ∃ r c, double.mul x y = some r ∧ Nv r c ∧ (a * b < 2 ^ 53 → c = a * b) ∧ (2 ^ 53 ≤ a * b → 2 ^ 53 ≤ c ∧ c ≤ 2 * (a * b)) := by
  obtain ⟨s, M, p, e, hv, hs⟩ := hx
  obtain ⟨t, N, q, f, hw, ht⟩ := hy
  obtain ⟨c, h1, h2, h3⟩ := nearest_val (s := s ^^ t) (hv.mul hw) (by
    intro h
    rcases s, t with ⟨_ | _, _ | _⟩
    · cases h
    · rw [ht rfl]; simp
    · rw [hs rfl]; simp
    · cases h) hn
  exact ⟨_, c, by unfold Format.mul; rw [e, f]; rfl, h1, h2, h3⟩

theorem cmp_int (a b : Int) : compare a b = if a < b then .lt else if a = b then .eq else .gt := rfl
theorem cmp_nat (a b : Nat) : compare a b = if a < b then .lt else if a = b then .eq else .gt := rfl

theorem cmp_scale (a b c : Int) (hc : 0 < c) : compare a b = compare (a * c) (b * c) := by
  rw [cmp_int, cmp_int]
  have h1 : (a * c < b * c) ↔ a < b := Int.mul_lt_mul_right hc
  have h2 : (a * c = b * c) ↔ a = b := ⟨fun h => Int.eq_of_mul_eq_mul_right (by omega) h, fun h => by rw [h]⟩
  simp only [h1, h2]

theorem cmp_scale_nat (a b c : Nat) (hc : 0 < c) : compare a b = compare ((a * c : Nat) : Int) ((b * c : Nat) : Int) := by
  rw [cmp_nat, cmp_int]
  have h1 : (((a * c : Nat) : Int) < ((b * c : Nat) : Int)) ↔ a < b := by
    rw [Int.ofNat_lt]; exact Nat.mul_lt_mul_right hc
  have h2 : (((a * c : Nat) : Int) = ((b * c : Nat) : Int)) ↔ a = b := by
    rw [Int.ofNat_inj]; exact ⟨fun h => Nat.eq_of_mul_eq_mul_right hc h, fun h => by rw [h]⟩
  simp only [h1, h2]

theorem order_dv {d e : Datum} {a b : Nat} (hd : Dv d a) (he : Dv e b) : d.order e = some (compare a b) := by
  obtain ⟨s, M, p, rfl, hv, hs⟩ := hd
  obtain ⟨t, N, q, rfl, hw, ht⟩ := he
  have e1 := signed_at (base := min p q) (K := (-(min p q)).toNat) hv hs (by omega) (by omega)
  have e2 := signed_at (base := min p q) (K := (-(min p q)).toNat) hw ht (by omega) (by omega)
  have hpos : (0 : Int) < ((2 ^ (min p q + ((-(min p q)).toNat : Int)).toNat : Nat) : Int) := by
    have := Nat.two_pow_pos (min p q + ((-(min p q)).toNat : Int)).toNat; omega
  show some (compare _ _) = _
  rw [cmp_scale _ _ _ hpos, e1, e2, ← cmp_scale_nat _ _ _ (Nat.two_pow_pos _)]

theorem order_val {x y a b : Nat} (hx : Nv x a) (hy : Nv y b) : double.order x y = some (compare a b) := order_dv hx hy

theorem cut_zero (s : Bool) (n drop : Nat) : Toward.zero.cut s n drop = n / 2 ^ (min drop (n.log2 + 2)) := by
  unfold Toward.cut
  simp [Nat.shiftLeft_eq]

theorem toInt_dv {d : Datum} {a : Nat} (hd : Dv d a) : d.toInt .zero = some (a : Int) := by
  obtain ⟨s, M, p, rfl, hv, hs⟩ := hd
  unfold Datum.toInt Datum.integral
  have key : Toward.zero.cut s (M <<< p.toNat) (-p).toNat = a := by
    rw [cut_zero]
    rcases Int.le_total 0 p with hp | hp
    · rw [show (-p).toNat = 0 from by omega]
      have := hv.at 0 (by omega)
      rw [Nat.shiftLeft_eq]
      simpa using this
    · rw [show p.toNat = 0 from by omega, Nat.shiftLeft_zero]
      have e := hv.at (-p).toNat (by omega)
      rw [show (p + ((-p).toNat : Int)).toNat = 0 from by omega, Nat.pow_zero, Nat.mul_one] at e
      by_cases h0 : a = 0
      · subst h0
        rw [Nat.zero_mul] at e
        subst e
        simp
      · have hM : M ≠ 0 := fun e => h0 (hv.zero_iff.1 e)
        have hl := hv.log2 h0
        rw [show min (-p).toNat (M.log2 + 2) = (-p).toNat from by omega, e]
        exact Nat.mul_div_cancel _ (Nat.two_pow_pos _)
  simp only [key]
  cases s
  · simp [signed]
  · rw [hs rfl]; rfl

/-- The word of a whole number below 2^53. -/
theorem ofInt_val {n : Nat} (h : n < 2 ^ 53) : Nv (floatOfInt .f64 (n : Int)) n := by
  have hv : HasVal n 0 n := ⟨0, by omega, by simp⟩
  obtain ⟨c, h1, h2, _⟩ := nearest_val (s := false) hv (by simp) (by omega)
  rw [h2 h] at h1
  have : floatOfInt .f64 (n : Int) = double.nearest false n 0 := by
    show double.nearest (decide ((n : Int) < 0)) _ 0 = _
    rw [decide_eq_false (by omega), Int.natAbs_natCast]
  rw [this]
  exact h1

/-- The word of 2^40, as it stands in the program's text. -/
theorem most_val : Nv 4787326403894837248 1099511627776 := ⟨false, 2 ^ 52, -12, rfl, ⟨12, by omega, rfl⟩, by simp⟩

/-- What lies between nought and 2^40 is cut to a whole number that does. -/
theorem toInt_within {x : Nat} (h0 : double.order x 0 = some .gt ∨ double.order x 0 = some .eq) (h1 : double.order x 4787326403894837248 = some .lt ∨ double.order x 4787326403894837248 = some .eq) :
    ∃ m : Nat, m ≤ 1099511627776 ∧ (double.read x).toInt .zero = some (m : Int) ∧ (∀ n : Nat, n ≤ 1099511627776 → double.order (floatOfInt .f64 (n : Int)) x = some .eq → Nv x n) := by
  have hm := most_val
  unfold Nv at hm
  unfold Format.order at h0 h1 ⊢
  rw [read_zero] at h0
  obtain ⟨ms, mM, mp, me, mv, mneg⟩ := hm
  rw [me] at h1
  unfold Nv
  cases hd : double.read x with
  | nan s f => rw [hd] at h0; rcases h0 with h | h <;> cases h
  | infinity s =>
    rw [hd] at h0 h1
    cases s
    · rcases h1 with h | h <;> cases h
    · rcases h0 with h | h <;> cases h
  | number s M p =>
    rw [hd] at h0 h1
    -- M is nought where the sign is set
    have hneg : s = true → M = 0 := by
      intro hs
      subst hs
      have g : (signed true M (p - min p (-1074)).toNat) ≥ 0 := by
        have z : signed false 0 (-1074 - min p (-1074)).toNat = 0 := by simp [signed]
        rcases h0 with h | h
        · have h' : compare (signed true M (p - min p (-1074)).toNat) (signed false 0 (-1074 - min p (-1074)).toNat) = .gt := Option.some.inj h
          rw [z, cmp_int] at h'
          split at h'
          · cases h'
          · omega
        · have h' : compare (signed true M (p - min p (-1074)).toNat) (signed false 0 (-1074 - min p (-1074)).toNat) = .eq := Option.some.inj h
          rw [z, cmp_int] at h'
          split at h'
          · cases h'
          · omega
      unfold signed at g
      rw [if_pos rfl, Nat.shiftLeft_eq] at g
      have hp := Nat.two_pow_pos (p - min p (-1074)).toNat
      have : M * 2 ^ (p - min p (-1074)).toNat = 0 := by omega
      rcases Nat.mul_eq_zero.1 this with h | h
      · exact h
      · omega
    have hcut : Toward.zero.cut s (M <<< p.toNat) (-p).toNat ≤ 1099511627776 := by
      by_cases hM : M = 0
      · subst hM; rw [cut_zero]; simp
      have hs : s = false := by cases s; rfl; exact absurd (hneg rfl) hM
      subst hs
      have e2 := signed_at (base := min p mp) (K := (-(min p mp)).toNat) mv mneg (by omega) (by omega)
      have hz : (min p mp + ((-(min p mp)).toNat : Int)).toNat = (min p mp).toNat := by omega
      rw [hz] at e2
      have hpos := Nat.two_pow_pos (min p mp).toNat
      have le : signed false M (p - min p mp).toNat ≤ signed ms mM (mp - min p mp).toNat := by
        rcases h1 with h | h
        · have h' : compare (signed false M (p - min p mp).toNat) (signed ms mM (mp - min p mp).toNat) = .lt := Option.some.inj h
          rw [cmp_int] at h'
          split at h'
          · omega
          · split at h' <;> cases h'
        · have h' : compare (signed false M (p - min p mp).toNat) (signed ms mM (mp - min p mp).toNat) = .eq := Option.some.inj h
          rw [cmp_int] at h'
          split at h'
          · cases h'
          · split at h'
            · omega
            · cases h'
      have le2 : M * 2 ^ (p - min p mp).toNat * 2 ^ (min p mp).toNat ≤ 1099511627776 * 2 ^ (-(min p mp)).toNat := by
        have := Int.mul_le_mul_of_nonneg_right le (show (0 : Int) ≤ ((2 ^ (min p mp).toNat : Nat) : Int) by omega)
        rw [e2] at this
        unfold signed at this
        rw [Nat.shiftLeft_eq] at this
        simp only [Bool.false_eq_true, if_false] at this
        exact_mod_cast this
      rw [cut_zero]
      rcases Int.le_total 0 p with hp | hp
      · rw [show (-p).toNat = 0 from by omega, Nat.shiftLeft_eq]
        simp only [Nat.zero_min, Nat.pow_zero, Nat.div_one]
        rw [Nat.mul_assoc, ← Nat.pow_add, show (p - min p mp).toNat + (min p mp).toNat = p.toNat + (-(min p mp)).toNat from by omega, Nat.pow_add, ← Nat.mul_assoc] at le2
        exact Nat.le_of_mul_le_mul_right le2 (Nat.two_pow_pos _)
      · rw [show p.toNat = 0 from by omega, Nat.shiftLeft_zero]
        rcases Nat.le_total (-p).toNat (M.log2 + 2) with hlo | hlo
        · rw [show min (-p).toNat (M.log2 + 2) = (-p).toNat from by omega]
          rw [Nat.mul_assoc, ← Nat.pow_add] at le2
          refine Nat.le_of_lt_succ ((Nat.div_lt_iff_lt_mul (Nat.two_pow_pos _)).2 ?_)
          have e3 : (-(min p mp)).toNat = (-p).toNat + ((p - min p mp).toNat + (min p mp).toNat) := by omega
          rw [e3, Nat.pow_add 2 (-p).toNat, ← Nat.mul_assoc] at le2
          have le3 := Nat.le_of_mul_le_mul_right le2 (Nat.two_pow_pos _)
          have := Nat.two_pow_pos (-p).toNat
          rw [Nat.succ_mul]
          omega
        · rw [show min (-p).toNat (M.log2 + 2) = M.log2 + 2 from by omega]
          obtain ⟨_, b⟩ := log2_bd hM
          rw [Nat.div_eq_of_lt (by rw [Nat.pow_succ]; omega)]
          omega
    refine ⟨Toward.zero.cut s (M <<< p.toNat) (-p).toNat, hcut, ?_, ?_⟩
    · unfold Datum.toInt Datum.integral
      cases s
      · simp [signed]
      · rw [hneg rfl]; simp [signed, cut_zero]
    · intro n hn ho
      obtain ⟨t, N, q, e, hw, ht⟩ := ofInt_val (n := n) (by omega)
      rw [e] at ho
      have h' : compare (signed t N (q - min q p).toNat) (signed s M (p - min q p).toNat) = .eq := Option.some.inj ho
      rw [cmp_int] at h'
      have eq : signed t N (q - min q p).toNat = signed s M (p - min q p).toNat := by
        split at h'
        · cases h'
        · split at h'
          · assumption
          · cases h'
      have e1 := signed_at (base := min q p) (K := (-(min q p)).toNat) hw ht (by omega) (by omega)
      rw [eq] at e1
      have e4 : (M * 2 ^ (p - min q p).toNat) * 2 ^ (min q p + ((-(min q p)).toNat : Int)).toNat = n * 2 ^ (-(min q p)).toNat := by
        cases s
        · unfold signed at e1
          rw [Nat.shiftLeft_eq] at e1
          simp only [Bool.false_eq_true, if_false] at e1
          exact_mod_cast e1
        · have hM := hneg rfl
          subst hM
          have z : signed true 0 (p - min q p).toNat = 0 := by simp [signed]
          rw [z, Int.zero_mul] at e1
          have g : n * 2 ^ (-(min q p)).toNat = 0 := by exact_mod_cast e1.symm
          rw [Nat.zero_mul, Nat.zero_mul, g]
      have hv : HasVal M p n := by
        refine ⟨(-(min q p)).toNat, by omega, ?_⟩
        rw [← e4, Nat.mul_assoc, ← Nat.pow_add]
        congr 2
        omega
      exact ⟨s, M, p, rfl, hv, fun hs => hv.zero_iff.1 (hneg hs)⟩

end Go.Proofs.Ytpfjepmdnhmnaaa
