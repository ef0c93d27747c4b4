/- X25519's ladder as a function: what it comes to is the point, taken so often; the order of numbers makes no difference. No program. Each theorem names its own conditions. -/
import Derived.Test.YtdjdalaghfknoaaEdwLad
namespace Go.Proofs.Ytdjdalaghfknoaa
set_option linter.unusedVariables false

theorem f_two (y : Fp) : (2 : Fp) = -1 * (-1 * (1 - y) - (1 + y)) := by grind

structure LS where
  x2 : Fp
  z2 : Fp
  x3 : Fp
  z3 : Fp
def LS.swap (s : LS) : LS := ⟨s.x3, s.z3, s.x2, s.z2⟩
/-- One step of the ladder, with nothing turned. -/
def LS.step (x1 : Fp) (s : LS) : LS where
  x2 := (s.x2 + s.z2) * (s.x2 + s.z2) * ((s.x2 - s.z2) * (s.x2 - s.z2))
  z2 := ((s.x2 + s.z2) * (s.x2 + s.z2) - (s.x2 - s.z2) * (s.x2 - s.z2)) * ((s.x2 + s.z2) * (s.x2 + s.z2) + 121665 * ((s.x2 + s.z2) * (s.x2 + s.z2) - (s.x2 - s.z2) * (s.x2 - s.z2)))
  x3 := ((s.x3 - s.z3) * (s.x2 + s.z2) + (s.x3 + s.z3) * (s.x2 - s.z2)) * ((s.x3 - s.z3) * (s.x2 + s.z2) + (s.x3 + s.z3) * (s.x2 - s.z2))
  z3 := x1 * (((s.x3 - s.z3) * (s.x2 + s.z2) - (s.x3 + s.z3) * (s.x2 - s.z2)) * ((s.x3 - s.z3) * (s.x2 + s.z2) - (s.x3 + s.z3) * (s.x2 - s.z2)))
def LS.turn (b : Bool) (s : LS) : LS := if b then s.swap else s
def LS.bit (x1 : Fp) (b : Bool) (s : LS) : LS := ((s.turn b).step x1).turn b
/-- After the highest t of 255 bits of k. -/
def lrun (x1 : Fp) (k : Nat) : Nat → LS
  | 0 => ⟨1, 0, x1, 1⟩
  | t + 1 => (lrun x1 k t).bit x1 (k.testBit (254 - t))
/-- X25519 of numbers: k is clamped already. -/
def lmul (k : Nat) (x1 : Fp) : Fp := (lrun x1 k 255).x2 * fi (lrun x1 k 255).z2

/-- What tells a point, as X25519 has it: (1 + y) / (1 - y), and nought for the one that is none. -/
def uv (P : Pt) : Fp := (1 + P.y) * fi (1 - P.y)

theorem rep_uv {P : Pt} {X Z : Fp} (h : Rep P X Z) : X * fi Z = uv P := by
  obtain ⟨h1, h2⟩ := h
  unfold uv
  generalize P.y = y at *
  have hz : X * (1 - y) = Z * (1 + y) := lin 1 h1 (by clear h1 h2; grind)
  by_cases hZ : Z = 0
  · subst hZ
    have h3 : X ≠ 0 := fun e => h2 (by rw [e, Fin.add_zero])
    have h4 : 1 - y = 0 := by
      rw [Fin.zero_mul] at hz
      rcases f_dom hz with e | e
      · exact absurd e h3
      · exact e
    rw [h4, fi_zero, Fin.mul_zero, Fin.mul_zero]
  · have hY : 1 - y ≠ 0 := fun e => by
      rw [e, Fin.mul_zero] at hz
      rcases f_dom hz.symm with e1 | e1
      · exact hZ e1
      · have e2 := (f_both e1 e).1
        exact f_one_ne e2
    apply f_cancel (f_mul_ne hZ hY)
    have i1 := f_inv hZ
    have i2 := f_inv hY
    generalize fi Z = a at *
    generalize fi (1 - y) = b at *
    generalize hw : 1 - y = w at *
    generalize 1 + y = v at *
    have l : X * a * (Z * w) = X * w * (Z * a) := by clear h1 h2 hz hw i1 i2; grind
    have r : v * b * (Z * w) = Z * v * (w * b) := by clear h1 h2 hz hw i1 i2; grind
    rw [l, r, i1, i2, hz]

/-- The ladder's state for the point Q and the number n. -/
def LInv (Q : Pt) (n : Nat) (s : LS) : Prop := Rep (pmul n Q) s.x2 s.z2 ∧ Rep (pmul (n + 1) Q) s.x3 s.z3
theorem linv_step {Q : Pt} {n : Nat} {s : LS} {x1 : Fp} (hx : x1 * (1 - Q.y) = 1 + Q.y) (hx0 : x1 ≠ 0) (h : LInv Q n s) (b : Bool) : LInv Q (2 * n + b.toNat) (s.bit x1 b) := by
  obtain ⟨h2, h3⟩ := h
  have e1 : padd (pmul n Q) Q = pmul (n + 1) Q := (pmul_succ n Q).symm
  have e2 : padd (pmul n Q) (pmul (n + 1) Q) = pmul (2 * n + 1) Q := by rw [← pmul_add]; congr 1; omega
  cases b
  · have a := rep_dbl h2
    have c := rep_dif h2 h3 (Or.inl e1) hx hx0
    rw [← pmul_two] at a
    rw [e2] at c
    exact ⟨a, c⟩
  · have a := rep_dbl h3
    have c := rep_dif h3 h2 (Or.inr e1) hx hx0
    rw [← pmul_two] at a
    rw [padd_comm, e2] at c
    exact ⟨c, a⟩
theorem shift_bit (k t : Nat) (ht : t < 255) : k >>> (255 - (t + 1)) = 2 * (k >>> (255 - t)) + (k.testBit (254 - t)).toNat := by
  have e1 : 255 - (t + 1) = 254 - t := by omega
  have e2 : 255 - t = 254 - t + 1 := by omega
  rw [e1, e2, Nat.shiftRight_succ, Nat.testBit_eq_decide_div_mod_eq, ← Nat.shiftRight_eq_div_pow]
  generalize k >>> (254 - t) = m
  by_cases h : m % 2 = 1
  · rw [decide_eq_true h]
    show m = 2 * (m / 2) + 1
    omega
  · rw [decide_eq_false h]
    show m = 2 * (m / 2) + 0
    omega
theorem lrun_inv {Q : Pt} {k : Nat} {x1 : Fp} (hk : k < 2 ^ 255) (hx : x1 * (1 - Q.y) = 1 + Q.y) (hx0 : x1 ≠ 0) : ∀ t, t ≤ 255 → LInv Q (k >>> (255 - t)) (lrun x1 k t)
  | 0, _ => by
    have e : k >>> (255 - 0) = 0 := by
      rw [Nat.sub_zero, Nat.shiftRight_eq_div_pow]
      exact Nat.div_eq_of_lt hk
    rw [e]
    refine ⟨⟨?_, ?_⟩, ?_⟩
    · rw [pmul_zero]
      show (1 : Fp) - 0 = 1 * (1 + 0)
      decide +kernel
    · show (1 : Fp) + 0 ≠ 0
      rw [Fin.add_zero]
      exact f_one_ne
    · rw [pmul_one]
      show x1 - 1 = Q.y * (x1 + 1) ∧ x1 + 1 ≠ 0
      generalize Q.y = y at *
      refine ⟨lin 1 hx (by clear hx; grind), fun e => ?_⟩
      have h1 : x1 = -1 := lin 1 e (by clear hx e; grind)
      subst h1
      have h2 := f_two y
      rw [hx, f_self, Fin.mul_zero] at h2
      exact f_two_ne h2
  | t + 1, h => by
    rw [shift_bit k t (by omega)]
    exact linv_step hx hx0 (lrun_inv hk hx hx0 t (by omega)) _

theorem lz (X c : Fp) {Z : Fp} (h : Z = 0) : ((X + Z) * (X + Z) - (X - Z) * (X - Z)) * ((X + Z) * (X + Z) + c * ((X + Z) * (X + Z) - (X - Z) * (X - Z))) = 0 := by
  subst h
  have e : X - 0 = X + 0 := by grind
  rw [e, f_self, Fin.zero_mul]
theorem step_z2 (x1 : Fp) (s : LS) : (s.step x1).z2 = ((s.x2 + s.z2) * (s.x2 + s.z2) - (s.x2 - s.z2) * (s.x2 - s.z2)) * ((s.x2 + s.z2) * (s.x2 + s.z2) + 121665 * ((s.x2 + s.z2) * (s.x2 + s.z2) - (s.x2 - s.z2) * (s.x2 - s.z2))) := rfl
theorem step_z3 (s : LS) : (s.step 0).z3 = 0 := Fin.zero_mul _
theorem lzero_step (b : Bool) (s : LS) (h : s.z2 = 0 ∧ s.z3 = 0) : (s.bit 0 b).z2 = 0 ∧ (s.bit 0 b).z3 = 0 := by
  obtain ⟨h2, h3⟩ := h
  cases b
  · exact ⟨(step_z2 0 s).trans (lz s.x2 121665 h2), step_z3 s⟩
  · exact ⟨step_z3 s.swap, (step_z2 0 s.swap).trans (lz s.swap.x2 121665 h3)⟩
theorem lzero_first (b : Bool) : ((lrun 0 0 0).bit 0 b).z2 = 0 ∧ ((lrun 0 0 0).bit 0 b).z3 = 0 := by
  cases b <;> decide +kernel
theorem lzero_run (k : Nat) : ∀ t, (lrun 0 k (t + 1)).z2 = 0 ∧ (lrun 0 k (t + 1)).z3 = 0
  | 0 => lzero_first _
  | t + 1 => lzero_step _ _ (lzero_run k t)
/-- Of nought all products are nought. -/
theorem lmul_zero (k : Nat) : lmul k 0 = 0 := by
  unfold lmul
  rw [(lzero_run k 254).1, fi_zero, Fin.mul_zero]

theorem uv_cross {P : Pt} (h : uv P ≠ 0) : uv P * (1 - P.y) = 1 + P.y := by
  unfold uv at *
  by_cases hy : 1 - P.y = 0
  · rw [hy, fi_zero, Fin.mul_zero] at h
    exact absurd rfl h
  · have := f_inv hy
    generalize 1 - P.y = w at *
    generalize 1 + P.y = v at *
    generalize fi w = b at *
    have l : v * b * w = v * (w * b) := by clear this h; grind
    rw [l, this, Fin.mul_one]
/-- The points that tell nought: two of them come to none. -/
theorem uv_nought {P : Pt} (h : uv P = 0) : padd P P = pzero := by
  have hy : P.y * P.y = 1 := by
    unfold uv at h
    by_cases hy : 1 - P.y = 0
    · have := f_sub hy
      rw [← this, Fin.mul_one]
    · have hf := f_inv hy
      rcases f_dom h with e | e
      · have : P.y = -1 := lin 1 e (by clear e h hf hy; generalize P.y = y; grind)
        rw [this]
        decide +kernel
      · rw [e, Fin.mul_zero] at hf
        exact absurd hf.symm f_one_ne
  have hx : P.x = 0 := by
    have hon := P.on
    unfold On at hon
    rw [hy, Fin.mul_one] at hon
    have e1 : P.x * P.x * (1 + dF) = 0 := lin (-1) hon (by clear hon hy h; generalize P.x = x; generalize dF = d; grind)
    rcases f_dom e1 with e | e
    · exact f_sq e
    · exfalso
      have e2 : dF * 121666 = -121666 := lin 121666 e (by clear e e1 hon hy h; generalize dF = d; grind)
      rw [dF_eq] at e2
      revert e2
      decide +kernel
  refine (padd_of ?_ ?_).symm
  · show 0 * _ = _
    rw [hx, Fin.zero_mul, Fin.zero_mul, Fin.zero_add]
  · show 1 * (1 - dF * (P.x * P.x * (P.y * P.y))) = P.y * P.y + P.x * P.x
    rw [hx, hy]
    decide +kernel
theorem uv_pzero : uv pzero = 0 := by
  unfold uv
  have e : 1 - pzero.y = 0 := by
    show (1 : Fp) - 1 = 0
    exact f_self 1
  rw [e, fi_zero, Fin.mul_zero]

/-- X25519 over points: an even number times any point. -/
theorem lmul_uv (P : Pt) {k : Nat} (hk : k < 2 ^ 255) (h2 : k % 2 = 0) : lmul k (uv P) = uv (pmul k P) := by
  by_cases h : uv P = 0
  · rw [h, lmul_zero]
    have e : k = 2 * (k / 2) := by omega
    rw [e, pmul_two, ← pmul_padd, uv_nought h, pmul_pzero, uv_pzero]
  · have := (lrun_inv hk (uv_cross h) h 255 (Nat.le_refl _)).1
    rw [Nat.sub_self, Nat.shiftRight_zero] at this
    exact rep_uv this
/-- The order of two even numbers makes no difference. -/
theorem lmul_comm (P : Pt) {a b : Nat} (ha : a < 2 ^ 255) (ha2 : a % 2 = 0) (hb : b < 2 ^ 255) (hb2 : b % 2 = 0) : lmul a (lmul b (uv P)) = lmul b (lmul a (uv P)) := by
  rw [lmul_uv P hb hb2, lmul_uv P ha ha2, lmul_uv _ ha ha2, lmul_uv _ hb hb2, pmul_comm]

/-! ### The base point -/

def bX : Int := 15112221349535400772501151409588531511454012693041857206046113283949847762202
def bY : Int := 46316835694926478169428394003475163141307993866256225615783033603165251855960
theorem b_on : On (fp bX) (fp bY) := by
  unfold On dF
  rw [← fp_mul, ← fp_mul, ← fp_sub, ← fp_mul, ← fp_mul, ← fp_one, ← fp_add, fp_eq]
  have : pP ∣ bY * bY - bX * bX - (1 + dN * (bX * bX * (bY * bY))) := by decide +kernel
  exact this
def bP : Pt := ⟨fp bX, fp bY, b_on⟩
theorem uv_base : uv bP = 9 := by
  have h : (9 : Fp) * (1 - bP.y) = 1 + bP.y := by
    show (9 : Fp) * (1 - fp bY) = 1 + fp bY
    decide +kernel
  unfold uv
  rw [← h]
  have hy : 1 - bP.y ≠ 0 := by
    show (1 : Fp) - fp bY ≠ 0
    decide +kernel
  have := f_inv hy
  generalize 1 - bP.y = w at *
  generalize fi w = b at *
  generalize (9 : Fp) = n at *
  have l : n * w * b = n * (w * b) := by clear h hy this; grind
  rw [l, this, Fin.mul_one]

end Go.Proofs.Ytdjdalaghfknoaa
