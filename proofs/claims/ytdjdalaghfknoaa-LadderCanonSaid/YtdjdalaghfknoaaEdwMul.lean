/- The points of the curve -x^2 + y^2 = 1 + d x^2 y^2 modulo p: their sum is associative; a point taken n times. No program. Each theorem names its own conditions. -/
import Derived.Test.YtdjdalaghfknoaaEdwGrp
namespace Go.Proofs.Ytdjdalaghfknoaa
set_option linter.unusedVariables false

theorem On.zero {x y : Fp} (h : On x y) : y * y - x * x - 1 - dF * (x * x * (y * y)) = 0 := by
  unfold On at h
  rw [h]
  grind

/-- With x' A = n, y' B = m, and x (1 + d x' u y' v) = x' v + u y'. -/
theorem lift_x {d A B n m x' y' u v x : Fp} (hx : x' * A = n) (hy : y' * B = m) (h : x * (1 + d * (x' * u * (y' * v))) = x' * v + u * y') : x * (A * B + d * (n * m * (u * v))) = n * B * v + u * (m * A) := by
  subst hx hy
  have e : x * (A * B + d * (x' * A * (y' * B) * (u * v))) = x * (1 + d * (x' * u * (y' * v))) * (A * B) := by grind
  rw [e, h]
  grind
theorem lift_y {d A B n m x' y' u v y : Fp} (hx : x' * A = n) (hy : y' * B = m) (h : y * (1 - d * (x' * u * (y' * v))) = y' * v + x' * u) : y * (A * B - d * (n * m * (u * v))) = m * A * v + n * B * u := by
  subst hx hy
  have e : y * (A * B - d * (x' * A * (y' * B) * (u * v))) = y * (1 - d * (x' * u * (y' * v))) * (A * B) := by grind
  rw [e, h]
  grind
theorem lift_ne {d A B n m x' y' u v : Fp} (hx : x' * A = n) (hy : y' * B = m) (hA : A ≠ 0) (hB : B ≠ 0) (h : 1 + d * (x' * u * (y' * v)) ≠ 0) : A * B + d * (n * m * (u * v)) ≠ 0 := by
  subst hx hy
  have e : A * B + d * (x' * A * (y' * B) * (u * v)) = (1 + d * (x' * u * (y' * v))) * (A * B) := by grind
  rw [e]
  exact f_mul_ne h (f_mul_ne hA hB)
theorem lift_ne' {d A B n m x' y' u v : Fp} (hx : x' * A = n) (hy : y' * B = m) (hA : A ≠ 0) (hB : B ≠ 0) (h : 1 - d * (x' * u * (y' * v)) ≠ 0) : A * B - d * (n * m * (u * v)) ≠ 0 := by
  subst hx hy
  have e : A * B - d * (x' * A * (y' * B) * (u * v)) = (1 - d * (x' * u * (y' * v))) * (A * B) := by grind
  rw [e]
  exact f_mul_ne h (f_mul_ne hA hB)
/-- x D = N, z E = M, N E = M D. -/
theorem frac_eq {x z D E N M : Fp} (hD : D ≠ 0) (hE : E ≠ 0) (hx : x * D = N) (hz : z * E = M) (h : N * E = M * D) : x = z := by
  apply f_cancel (f_mul_ne hD hE)
  subst hx hz
  grind

theorem assoc_core {x1 y1 x2 y2 x3 y3 d a b c e xl yl xr yr : Fp}
    (e1 : y1 * y1 - x1 * x1 - 1 - d * (x1 * x1 * (y1 * y1)) = 0) (e2 : y2 * y2 - x2 * x2 - 1 - d * (x2 * x2 * (y2 * y2)) = 0) (e3 : y3 * y3 - x3 * x3 - 1 - d * (x3 * x3 * (y3 * y3)) = 0)
    (ha : a * (1 + d * (x1 * x2 * (y1 * y2))) = x1 * y2 + x2 * y1) (hb : b * (1 - d * (x1 * x2 * (y1 * y2))) = y1 * y2 + x1 * x2)
    (hc : c * (1 + d * (x2 * x3 * (y2 * y3))) = x2 * y3 + x3 * y2) (he : e * (1 - d * (x2 * x3 * (y2 * y3))) = y2 * y3 + x2 * x3)
    (n1 : 1 + d * (x1 * x2 * (y1 * y2)) ≠ 0) (n2 : 1 - d * (x1 * x2 * (y1 * y2)) ≠ 0) (n3 : 1 + d * (x2 * x3 * (y2 * y3)) ≠ 0) (n4 : 1 - d * (x2 * x3 * (y2 * y3)) ≠ 0)
    (n5 : 1 + d * (a * x3 * (b * y3)) ≠ 0) (n6 : 1 - d * (a * x3 * (b * y3)) ≠ 0) (n7 : 1 + d * (c * x1 * (e * y1)) ≠ 0) (n8 : 1 - d * (c * x1 * (e * y1)) ≠ 0)
    (hxl : xl * (1 + d * (a * x3 * (b * y3))) = a * y3 + x3 * b) (hyl : yl * (1 - d * (a * x3 * (b * y3))) = b * y3 + a * x3)
    (hxr : xr * (1 + d * (c * x1 * (e * y1))) = c * y1 + x1 * e) (hyr : yr * (1 - d * (c * x1 * (e * y1))) = e * y1 + c * x1) : xl = xr ∧ yl = yr := by
  have lx := lift_x ha hb hxl
  have ly := lift_y ha hb hyl
  have rx := lift_x hc he hxr
  have ry := lift_y hc he hyr
  have nl := lift_ne ha hb n1 n2 n5
  have nl' := lift_ne' ha hb n1 n2 n6
  have nr := lift_ne hc he n3 n4 n7
  have nr' := lift_ne' hc he n3 n4 n8
  have ax := assoc_x e1 e2 e3
  have ay := assoc_y e1 e2 e3
  clear ha hb hc he hxl hyl hxr hyr n1 n2 n3 n4 n5 n6 n7 n8 e1 e2 e3
  refine ⟨?_, ?_⟩
  · refine frac_eq nl nr lx rx ?_
    clear nl nl' nr nr' lx rx ly ry ay
    have t1 : (1 + d * (x2 * x3 * (y2 * y3))) * (1 - d * (x2 * x3 * (y2 * y3))) + d * ((x2 * y3 + x3 * y2) * (y2 * y3 + x2 * x3) * (x1 * y1)) = (1 + d * (x2 * x3 * (y2 * y3))) * (1 - d * (x2 * x3 * (y2 * y3))) + d * (x1 * y1 * ((x2 * y3 + x3 * y2) * (y2 * y3 + x2 * x3))) := by
      rw [Fin.mul_comm _ (x1 * y1)]
    have t2 : (x2 * y3 + x3 * y2) * (1 - d * (x2 * x3 * (y2 * y3))) * y1 + x1 * ((y2 * y3 + x2 * x3) * (1 + d * (x2 * x3 * (y2 * y3)))) = x1 * ((y2 * y3 + x2 * x3) * (1 + d * (x2 * x3 * (y2 * y3)))) + (x2 * y3 + x3 * y2) * (1 - d * (x2 * x3 * (y2 * y3))) * y1 := by grind
    rw [t1, t2]
    exact ax
  · refine frac_eq nl' nr' ly ry ?_
    clear nl nl' nr nr' lx rx ly ry ax
    have t1 : (1 + d * (x2 * x3 * (y2 * y3))) * (1 - d * (x2 * x3 * (y2 * y3))) - d * ((x2 * y3 + x3 * y2) * (y2 * y3 + x2 * x3) * (x1 * y1)) = (1 + d * (x2 * x3 * (y2 * y3))) * (1 - d * (x2 * x3 * (y2 * y3))) - d * (x1 * y1 * ((x2 * y3 + x3 * y2) * (y2 * y3 + x2 * x3))) := by
      rw [Fin.mul_comm _ (x1 * y1)]
    have t2 : (y2 * y3 + x2 * x3) * (1 + d * (x2 * x3 * (y2 * y3))) * y1 + (x2 * y3 + x3 * y2) * (1 - d * (x2 * x3 * (y2 * y3))) * x1 = y1 * ((y2 * y3 + x2 * x3) * (1 + d * (x2 * x3 * (y2 * y3)))) + x1 * ((x2 * y3 + x3 * y2) * (1 - d * (x2 * x3 * (y2 * y3)))) := by
      rw [Fin.mul_comm _ y1, Fin.mul_comm _ x1]
    rw [t1, t2]
    exact ay

theorem padd_assoc' (P Q R : Pt) : (padd (padd P Q) R).x = (padd (padd Q R) P).x ∧ (padd (padd P Q) R).y = (padd (padd Q R) P).y :=
  assoc_core P.on.zero Q.on.zero R.on.zero (padd_x P Q) (padd_y P Q) (padd_x Q R) (padd_y Q R) (on_plus P.on Q.on) (on_minus P.on Q.on) (on_plus Q.on R.on) (on_minus Q.on R.on)
    (on_plus (padd P Q).on R.on) (on_minus (padd P Q).on R.on) (on_plus (padd Q R).on P.on) (on_minus (padd Q R).on P.on)
    (padd_x (padd P Q) R) (padd_y (padd P Q) R) (padd_x (padd Q R) P) (padd_y (padd Q R) P)
theorem padd_assoc (P Q R : Pt) : padd (padd P Q) R = padd P (padd Q R) :=
  Eq.trans (b := padd (padd Q R) P) (Pt.ext' (padd_assoc' P Q R).1 (padd_assoc' P Q R).2) (padd_comm (padd Q R) P)

/-! ### A point taken n times -/

def pmul : Nat → Pt → Pt
  | 0, _ => pzero
  | n + 1, P => padd (pmul n P) P
theorem pmul_zero (P : Pt) : pmul 0 P = pzero := rfl
theorem pmul_succ (n : Nat) (P : Pt) : pmul (n + 1) P = padd (pmul n P) P := rfl
theorem pmul_one (P : Pt) : pmul 1 P = P := zero_padd P
theorem pmul_add (m : Nat) (P : Pt) : ∀ n, pmul (m + n) P = padd (pmul m P) (pmul n P)
  | 0 => by rw [Nat.add_zero, pmul_zero, padd_zero]
  | n + 1 => by
    rw [← Nat.add_assoc, pmul_succ, pmul_succ, pmul_add m P n, padd_assoc]
theorem pmul_two (n : Nat) (P : Pt) : pmul (2 * n) P = padd (pmul n P) (pmul n P) := by
  rw [Nat.two_mul, pmul_add]
theorem pmul_mul (m : Nat) (P : Pt) : ∀ n, pmul (n * m) P = pmul n (pmul m P)
  | 0 => by rw [Nat.zero_mul]; rfl
  | n + 1 => by
    rw [Nat.add_mul, Nat.one_mul, pmul_add, pmul_mul m P n, pmul_succ]
theorem pmul_comm (m n : Nat) (P : Pt) : pmul m (pmul n P) = pmul n (pmul m P) := by
  rw [← pmul_mul, ← pmul_mul, Nat.mul_comm]
theorem pmul_pzero : ∀ n, pmul n pzero = pzero
  | 0 => rfl
  | n + 1 => by rw [pmul_succ, pmul_pzero n, padd_zero]
theorem padd_left_comm (P Q R : Pt) : padd P (padd Q R) = padd Q (padd P R) := by
  rw [← padd_assoc, padd_comm P Q, padd_assoc]
theorem pmul_padd (P Q : Pt) : ∀ n, pmul n (padd P Q) = padd (pmul n P) (pmul n Q)
  | 0 => by rw [pmul_zero, pmul_zero, pmul_zero, padd_zero]
  | n + 1 => by
    rw [pmul_succ, pmul_succ, pmul_succ, pmul_padd P Q n, padd_assoc, padd_assoc, padd_left_comm (pmul n Q)]
theorem padd_cancel {P Q R : Pt} (h : padd P R = padd Q R) : P = Q := by
  have := congrArg (fun T => padd T (pneg R)) h
  simp only [padd_assoc, padd_neg, padd_zero] at this
  exact this
theorem pneg_of {P Q : Pt} (h : padd P Q = pzero) : Q = pneg P := by
  apply padd_cancel (R := P)
  rw [padd_comm Q P, h, padd_comm (pneg P), padd_neg]
/-- A point whose order divides q: numbers count modulo q alone. -/
theorem pmul_mod {q : Nat} {P : Pt} (h : pmul q P = pzero) (n : Nat) : pmul (n % q) P = pmul n P := by
  have e : n = n / q * q + n % q := (Nat.div_add_mod' n q).symm
  conv => rhs; rw [e, pmul_add, pmul_mul, h, pmul_pzero, zero_padd]

end Go.Proofs.Ytdjdalaghfknoaa
