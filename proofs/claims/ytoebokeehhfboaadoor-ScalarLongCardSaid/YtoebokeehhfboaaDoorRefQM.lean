/- The document's own numbers modulo the group order: the arithmetic of its bytes. No program. Each theorem names its own conditions. -/
import Derived.Test.YtoebokeehhfboaaDoorSclTopM
namespace Go.Proofs.YtoebokeehhfboaaDoor
open Go.RowKit
set_option linter.unusedVariables false
set_option linter.unusedSimpArgs false

/-- q's bytes, and one nought more. -/
def ORD : List Int := [237, 211, 245, 92, 26, 99, 18, 88, 214, 156, 247, 162, 222, 249, 222, 20, 0, 0, 0, 0, 0, 0, 0, 0, 0, 0, 0, 0, 0, 0, 0, 16]
def ORDX : List Int := ORD ++ [0]
theorem ORDX_val : gV 256 ORDX = qQ := by decide +kernel
theorem ORD_val : gV 256 ORD = qQ := by decide +kernel
theorem ORD_all : ∀ z ∈ ORD, 0 ≤ z ∧ z < 256 := by decide +kernel
theorem ORD_range (j : Nat) : 0 ≤ ORD.getD j 0 ∧ ORD.getD j 0 < 256 := by
  rcases Nat.lt_or_ge j ORD.length with h | h
  · exact getD_of_all (P := fun z => 0 ≤ z ∧ z < 256) ORD_all h
  · rw [getD_out h]; omega
theorem ORDX_lo {j : Nat} (h : j < 32) : ORDX.getD j 0 = ORD.getD j 0 := by
  unfold ORDX
  simp only [List.getD]
  rw [List.getElem?_append_left (show j < ORD.length from h)]
theorem ORDX_top : ORDX.getD 32 0 = 0 := rfl
/-- q as a natural number. -/
def qN : Nat := 7237005577332262213973186563042994240857116359379907606001950938285454250989
theorem qN_q : (qN : Int) = qQ := rfl
theorem qN_pos : 0 < qN := by unfold qN; omega
theorem qN_32 : qN < 256 ^ 32 := by decide +kernel
theorem nq_nat (x : Nat) : nq (x : Int) = bytesN 32 (x % qN) := by
  unfold nq
  rw [← qN_q, ← Int.natCast_emod, Int.toNat_natCast]

/-! ### q is taken off -/
/-- What holds of the difference when k bytes are done. -/
structure LS (r m : List Int) (c : Int) (k : Nat) : Prop where
  len : m.length = 33
  dgs : ∀ j, j < k → 0 ≤ m.getD j 0 ∧ m.getD j 0 < 256
  car : c = 0 ∨ c = 1
  val : gV 256 (m.take k) = gV 256 (r.take k) - gV 256 (ORDX.take k) + c * 256 ^ k
theorem LS.start {r : List Int} (h : r.length = 33) : LS r r 0 0 := ⟨h, fun j hj => by omega, Or.inl rfl, by simp [gV]⟩
theorem take_set_far {zs : List Int} {k : Nat} {z : Int} : (zs.set k z).take k = zs.take k := by
  rw [List.take_set, List.set_eq_of_length_le (by simp; omega)]
theorem LS.step {r m : List Int} {c : Int} {k : Nat} (h : LS r m c k) (hk : k < 33) (hr : r.length = 33) (hd : 0 ≤ r.getD k 0 ∧ r.getD k 0 < 256) (ho : 0 ≤ ORDX.getD k 0 ∧ ORDX.getD k 0 < 256) (x : Int) (hx : x = r.getD k 0 - c - ORDX.getD k 0) :
    (x < 0 → ∀ y, y = x + 256 → LS r (m.set k y) 1 (k + 1)) ∧ (¬ x < 0 → ∀ y, y = x → LS r (m.set k y) 0 (k + 1)) := by
  obtain ⟨h1, h2, h3, h4⟩ := h
  have key : ∀ (y d : Int), 0 ≤ y → y < 256 → (d = 0 ∨ d = 1) → y = x + 256 * d → LS r (m.set k y) d (k + 1) := by
    intro y d y0 y1 hd2 hy
    refine ⟨by simp [h1], fun j hj => ?_, hd2, ?_⟩
    · by_cases e : j = k
      · subst e
        rw [getD_set_same (by omega)]
        exact ⟨y0, y1⟩
      · rw [getD_set_far (by omega)]
        exact h2 j (by omega)
    · rw [gV_take_succ _ _ _ (by simp [h1]; omega), take_set_far, getD_set_same (by omega), gV_take_succ _ r k (by omega), gV_take_succ _ ORDX k (by show k < 33; exact hk), h4, hy, hx, Int.pow_succ]
      generalize (256 : Int) ^ k = X
      generalize gV 256 (r.take k) = R
      generalize gV 256 (ORDX.take k) = O
      generalize r.getD k 0 = a
      generalize ORDX.getD k 0 = b
      grind
  exact ⟨fun g y hy => key y 1 (by omega) (by omega) (Or.inr rfl) (by omega), fun g y hy => key y 0 (by omega) (by omega) (Or.inl rfl) (by omega)⟩

theorem dig_val (n x : Nat) (h : x < 256 ^ n) : gV 256 (dig n x) = (x : Int) := by rw [gV_dig, Nat.mod_eq_of_lt h]
theorem dig_cut (n x k : Nat) (hk : k < n) : (dig n x).getD k 0 = ((x / 256 ^ k % 256 : Nat) : Int) := by
  have h : k < (bytesN n x).length := by rw [bytesN_length]; exact hk
  have e : (dig n x).getD k 0 = (((bytesN n x).getD k 0).toNat : Int) := by
    unfold dig
    rw [getD_eq (by simpa using h), List.getElem_map]
    simp [List.getD, h]
  rw [e, bytesN_getD n x k hk]
theorem LS.done {m : List Int} {c : Int} {x : Nat} (h : LS (dig 33 x) m c 33) (hx : x < 256 ^ 33) : (c = 1 ∧ x < qN) ∨ (c = 0 ∧ qN ≤ x ∧ m = dig 33 (x - qN)) := by
  obtain ⟨h1, h2, h3, h4⟩ := h
  have e1 : m.take 33 = m := List.take_of_length_le (by omega)
  have e2 : (dig 33 x).take 33 = dig 33 x := List.take_of_length_le (by rw [dig_length]; omega)
  have e3 : ORDX.take 33 = ORDX := rfl
  rw [e1, e2, e3, dig_val 33 x hx, ORDX_val, ← qN_q] at h4
  have hr := gV_range (B := 256) (by omega) (zs := m) (fun i hi => h2 i (by omega))
  rw [h1] at hr
  generalize (256 : Int) ^ 33 = P at *
  rcases h3 with rfl | rfl
  · refine Or.inr ⟨rfl, by omega, dig_of h1 h2 (by omega)⟩
  · exact Or.inl ⟨rfl, by omega⟩

/-! ### Twice a number, and a bit -/
structure DB (d z : List Int) (b c : Int) (k : Nat) : Prop where
  len : z.length = 33
  dgs : ∀ j, j < k → 0 ≤ z.getD j 0 ∧ z.getD j 0 < 256
  car : c = 0 ∨ c = 1
  val : gV 256 (z.take k) + c * 256 ^ k = 2 * gV 256 (d.take k) + b
  far : ∀ j, k ≤ j → z.getD j 0 = d.getD j 0
theorem DB.start {d : List Int} {b : Int} (h : d.length = 33) (hb : b = 0 ∨ b = 1) : DB d d b b 0 := ⟨h, fun j hj => by omega, hb, by simp [gV], fun j _ => rfl⟩
theorem DB.step {d z : List Int} {b c : Int} {k : Nat} (h : DB d z b c k) (hk : k < 33) (hl : d.length = 33) (hd : 0 ≤ d.getD k 0 ∧ d.getD k 0 < 256) :
    DB d (z.set k ((2 * z.getD k 0 + c) % 256)) b ((2 * z.getD k 0 + c) / 256) (k + 1) := by
  obtain ⟨h1, h2, h3, h4, h5⟩ := h
  have h6 := h5 k (Nat.le_refl _)
  rw [h6]
  refine ⟨by simp [h1], fun j hj => ?_, by omega, ?_, fun j hj => ?_⟩
  · by_cases e : j = k
    · subst e
      rw [getD_set_same (by omega)]
      omega
    · rw [getD_set_far (by omega)]
      exact h2 j (by omega)
  · rw [gV_take_succ _ _ _ (by simp [h1]; omega), take_set_far, getD_set_same (by omega), gV_take_succ _ d k (by omega), Int.pow_succ]
    have e := Int.mul_ediv_add_emod (2 * d.getD k 0 + c) 256
    generalize (2 * d.getD k 0 + c) / 256 = u at *
    generalize (2 * d.getD k 0 + c) % 256 = v at *
    generalize (256 : Int) ^ k = X at *
    generalize gV 256 (z.take k) = Z at *
    generalize gV 256 (d.take k) = D at *
    generalize d.getD k 0 = a at *
    have : Z = 2 * D + b - c * X := by omega
    subst this
    have : v = 2 * a + c - 256 * u := by omega
    subst this
    grind
  · rw [getD_set_far (by omega)]
    exact h5 j (by omega)
theorem DB.done {z : List Int} {c : Int} {x bn : Nat} (h : DB (dig 33 x) z (bn : Int) c 33) (hx : x < 256 ^ 33) (hb : 2 * x + bn < 256 ^ 33) : z = dig 33 (2 * x + bn) := by
  obtain ⟨h1, h2, h3, h4, h5⟩ := h
  have e1 : z.take 33 = z := List.take_of_length_le (by omega)
  have e2 : (dig 33 x).take 33 = dig 33 x := List.take_of_length_le (by rw [dig_length]; omega)
  rw [e1, e2, dig_val 33 x hx] at h4
  have hr := gV_range (B := 256) (by omega) (zs := z) (fun i hi => h2 i (by omega))
  have hb2 : ((2 * x + bn : Nat) : Int) < ((256 ^ 33 : Nat) : Int) := Int.ofNat_lt.2 hb
  have e3 : ((256 ^ 33 : Nat) : Int) = (256 : Int) ^ 33 := by simp
  rw [e3] at hb2
  clear hx hb e1 e2 e3
  generalize (256 : Int) ^ 33 = P at *
  refine dig_of h1 h2 ?_
  rcases h3 with rfl | rfl <;> omega

/-- A number's bits from j on, modulo q. -/
def upQ (E j : Nat) : Nat := E / 2 ^ j % qN
theorem upQ_lt (E j : Nat) : upQ E j < qN := Nat.mod_lt _ qN_pos
theorem dig_zero : ∀ n, dig n 0 = List.replicate n 0
  | 0 => rfl
  | n + 1 => by
    have := dig_zero n
    unfold dig at this ⊢
    simp only [bytesN, List.map_cons, List.replicate_succ, Nat.zero_div, this]
    rfl
theorem upQ_start (l : List UInt8) : dig 33 (upQ (leN l) (8 * l.length)) = List.replicate 33 0 := by
  have h := leN_lt l
  have e : (2 : Nat) ^ (8 * l.length) = 256 ^ l.length := by rw [Nat.pow_mul]
  unfold upQ
  rw [e, Nat.div_eq_of_lt h, Nat.zero_mod]
  exact dig_zero 33
theorem upQ_step (E j : Nat) : (2 * upQ E (j + 1) + E / 2 ^ j % 2) % qN = upQ E j := by
  have e : E / 2 ^ j = 2 * (E / 2 ^ (j + 1)) + E / 2 ^ j % 2 := by
    have : E / 2 ^ (j + 1) = E / 2 ^ j / 2 := by rw [Nat.div_div_eq_div_mul, ← Nat.pow_succ]
    rw [this]
    omega
  unfold upQ
  rw [Nat.add_mod, Nat.mul_mod_mod, ← Nat.add_mod, ← e]
theorem sub_once (y : Nat) (h : y < 2 * qN) : (if y < qN then y else y - qN) = y % qN := by
  split
  · rw [Nat.mod_eq_of_lt (by assumption)]
  · rw [Nat.mod_eq_sub_mod (by omega), Nat.mod_eq_of_lt (by omega)]

/-- A byte of a number. -/
theorem leN_byte (l : List UInt8) (i : Nat) (h : i < l.length) : (l.getD i 0).toNat = leN l / 256 ^ i % 256 := by
  have := bytesN_getD l.length (leN l) i h
  rwa [bytesN_leN] at this

/-! ### Sums -/
def cA (a b i : Nat) : Nat := (a % 256 ^ i + b % 256 ^ i) / 256 ^ i
theorem cA_zero (a b : Nat) : cA a b 0 = 0 := by simp [cA, Nat.mod_one]
theorem cA_step (a b i : Nat) : (cA a b i + a / 256 ^ i % 256 + b / 256 ^ i % 256) % 256 = (a + b) / 256 ^ i % 256 ∧ (cA a b i + a / 256 ^ i % 256 + b / 256 ^ i % 256) / 256 = cA a b (i + 1) := by
  have hP : 0 < 256 ^ i := Nat.pow_pos (by omega)
  unfold cA
  rw [Nat.pow_succ]
  generalize 256 ^ i = P at *
  have ea := Nat.div_add_mod a P
  have eb := Nat.div_add_mod b P
  have e1 : (a + b) / P = a / P + b / P + (a % P + b % P) / P := by
    have : a + b = (a % P + b % P) + P * (a / P + b / P) := by rw [Nat.mul_add]; omega
    rw [this, Nat.add_mul_div_left _ _ hP, Nat.add_comm]
  have e2 : ∀ z : Nat, z % (P * 256) = z % P + P * (z / P % 256) := fun z => Nat.mod_mul
  have e3 : (a % (P * 256) + b % (P * 256)) / (P * 256) = ((a % P + b % P) / P + (a / P % 256 + b / P % 256)) / 256 := by
    rw [← Nat.div_div_eq_div_mul, e2, e2]
    congr 1
    have : a % P + P * (a / P % 256) + (b % P + P * (b / P % 256)) = (a % P + b % P) + P * (a / P % 256 + b / P % 256) := by rw [Nat.mul_add]; omega
    rw [this, Nat.add_mul_div_left _ _ hP]
  rw [e1, e3]
  generalize (a % P + b % P) / P = c
  generalize a / P = x
  generalize b / P = y
  omega

end Go.Proofs.YtoebokeehhfboaaDoor
