/- The curve -x^2 + y^2 = 1 + d x^2 y^2 modulo p = 2^255 - 19: its points are a group. No program. Each theorem names its own conditions. -/
import Derived.Test.YtdjdalaghfknoaaEdwF
namespace Go.Proofs.Ytdjdalaghfknoaa
set_option linter.unusedVariables false

def dN : Int := 37095705934669439343138083508754565189542113879843219016388785533085940283555
theorem dN_cong : Cong (dN * 121666) (-121665) := by
  have : pP ∣ dN * 121666 - -121665 := by decide +kernel
  exact this
/-- The half power of d is -1. -/
theorem dN_half : (pm pN 255 37095705934669439343138083508754565189542113879843219016388785533085940283555 pM) = pN - 1 := by decide +kernel
theorem dN_not : ¬ Cong (dN ^ pM) 1 := by
  intro h
  have e := pm_eq (n := pN) 255 37095705934669439343138083508754565189542113879843219016388785533085940283555 pM (by decide +kernel)
  rw [dN_half] at e
  rw [cong_iff, dN, pP_nat] at h
  have e2 : (((37095705934669439343138083508754565189542113879843219016388785533085940283555 ^ pM % pN : Nat)) : Int) = (1 : Int) % (pN : Int) := by
    rw [Int.natCast_emod, Int.natCast_pow]
    exact h
  rw [← e] at e2
  revert e2
  decide +kernel

def dF : Fp := fp dN
theorem dF_ne : dF ≠ 0 := by
  intro h
  have := fp_zero_iff.1 h
  revert this
  decide +kernel
theorem dF_eq : dF * 121666 = -121665 := by
  decide +kernel
/-- d is no square. -/
theorem dF_nonsq (r : Fp) : r * r ≠ dF := by
  intro h
  rw [← fp_self r, ← fp_mul, dF, fp_eq] at h
  refine dN_not (half_of_square (fun hd => dF_ne (fp_zero_iff.2 hd)) h)
/-- A root of -1. -/
def iF : Fp := fp sm1
theorem iF_sq : iF * iF = -1 := by
  rw [iF, ← fp_mul, ← fp_one, ← fp_neg, fp_eq]
  exact sm1_sq

/-- x, y are a point. -/
def On (x y : Fp) : Prop := y * y - x * x = 1 + dF * (x * x * (y * y))

theorem d_ratio {a b : Fp} (h : a * a = dF * (b * b)) : b = 0 := by
  apply Classical.byContradiction
  intro hb
  have hf := f_inv hb
  refine dF_nonsq (a * fi b) ?_
  generalize fi b = c at *
  grind

theorem on_ne {x1 y1 x2 y2 : Fp} (h1 : On x1 y1) (h2 : On x2 y2) {s : Fp} (hs : s * s = 1) : dF * (x1 * x2 * (y1 * y2)) ≠ s := by
  intro hd
  have hi := iF_sq
  unfold On at h1 h2
  have hs0 : s ≠ 0 := fun e => f_one_ne (by rw [← hs, e]; grind)
  have k1 : dF * (x1 * x1 * (y1 * y1)) * (y2 * y2 - x2 * x2) = y1 * y1 - x1 * x1 := by
    have a1 : dF * (x1 * x1 * (y1 * y1)) * (y2 * y2 - x2 * x2) = dF * (x1 * x1 * (y1 * y1)) + (dF * (x1 * x2 * (y1 * y2))) * (dF * (x1 * x2 * (y1 * y2))) := by
      rw [h2]
      grind
    rw [a1, hd, hs]
    grind
  have k2 : (iF * x1 + s * y1) * (iF * x1 + s * y1) = dF * ((x1 * y1 * (y2 + iF * x2)) * (x1 * y1 * (y2 + iF * x2))) := by
    have a2 : dF * ((x1 * y1 * (y2 + iF * x2)) * (x1 * y1 * (y2 + iF * x2))) = dF * (x1 * x1 * (y1 * y1)) * (y2 * y2 + iF * iF * (x2 * x2)) + 2 * iF * (x1 * y1) * (dF * (x1 * x2 * (y1 * y2))) := by grind
    rw [a2, hd, hi]
    have a3 : y2 * y2 + -1 * (x2 * x2) = y2 * y2 - x2 * x2 := by grind
    rw [a3, k1]
    have a4 : (iF * x1 + s * y1) * (iF * x1 + s * y1) = iF * iF * (x1 * x1) + s * s * (y1 * y1) + 2 * iF * (x1 * y1) * s := by grind
    rw [a4, hi, hs]
    grind
  have k3 : (-iF * x1 + s * y1) * (-iF * x1 + s * y1) = dF * ((x1 * y1 * (y2 - iF * x2)) * (x1 * y1 * (y2 - iF * x2))) := by
    have a2 : dF * ((x1 * y1 * (y2 - iF * x2)) * (x1 * y1 * (y2 - iF * x2))) = dF * (x1 * x1 * (y1 * y1)) * (y2 * y2 + iF * iF * (x2 * x2)) - 2 * iF * (x1 * y1) * (dF * (x1 * x2 * (y1 * y2))) := by grind
    rw [a2, hd, hi]
    have a3 : y2 * y2 + -1 * (x2 * x2) = y2 * y2 - x2 * x2 := by grind
    rw [a3, k1]
    have a4 : (-iF * x1 + s * y1) * (-iF * x1 + s * y1) = iF * iF * (x1 * x1) + s * s * (y1 * y1) - 2 * iF * (x1 * y1) * s := by grind
    rw [a4, hi, hs]
    grind
  have z2 := d_ratio k2
  have z3 := d_ratio k3
  have hx : x1 * y1 ≠ 0 := fun e => hs0 (by
    have : dF * (x1 * x2 * (y1 * y2)) = dF * (x2 * y2) * (x1 * y1) := by grind
    rw [← hd, this, e]
    grind)
  have w2 : y2 + iF * x2 = 0 := by
    rcases f_dom z2 with e | e
    · exact absurd e hx
    · exact e
  have w3 : y2 - iF * x2 = 0 := by
    rcases f_dom z3 with e | e
    · exact absurd e hx
    · exact e
  have w4 : 2 * y2 = 0 := by grind
  have w5 : y2 = 0 := by
    rcases f_dom w4 with e | e
    · exact absurd e f_two_ne
    · exact e
  apply hs0
  rw [← hd, w5]
  grind
theorem on_plus {x1 y1 x2 y2 : Fp} (h1 : On x1 y1) (h2 : On x2 y2) : 1 + dF * (x1 * x2 * (y1 * y2)) ≠ 0 := fun h =>
  on_ne h1 h2 (s := -1) (by grind) (by grind)
theorem on_minus {x1 y1 x2 y2 : Fp} (h1 : On x1 y1) (h2 : On x2 y2) : 1 - dF * (x1 * x2 * (y1 * y2)) ≠ 0 := fun h =>
  on_ne h1 h2 (s := 1) (by grind) (by grind)

/-! ### The group -/

structure Pt where
  x : Fp
  y : Fp
  on : On x y
theorem Pt.ext' {P Q : Pt} (hx : P.x = Q.x) (hy : P.y = Q.y) : P = Q := by
  cases P; cases Q; cases hx; cases hy; rfl

theorem f_sub {a b : Fp} (h : a - b = 0) : a = b := by
  have e : a = (a - b) + b := by grind
  rw [e, h, Fin.zero_add]
theorem lin1 {L R c1 e1 : Fp} (h : L - R = c1 * e1) (h1 : e1 = 0) : L = R := by
  apply f_sub
  rw [h, h1, Fin.mul_zero]
theorem lin2 {L R c1 e1 c2 e2 : Fp} (h : L - R = c1 * e1 + c2 * e2) (h1 : e1 = 0) (h2 : e2 = 0) : L = R := by
  apply f_sub
  rw [h, h1, h2, Fin.mul_zero, Fin.mul_zero, Fin.zero_add]
theorem lin3 {L R c1 e1 c2 e2 c3 e3 : Fp} (h : L - R = c1 * e1 + c2 * e2 + c3 * e3) (h1 : e1 = 0) (h2 : e2 = 0) (h3 : e3 = 0) : L = R := by
  apply f_sub
  rw [h, h1, h2, h3, Fin.mul_zero, Fin.mul_zero, Fin.mul_zero, Fin.zero_add, Fin.zero_add]

/-- What follows from one equation, so many times. -/
theorem lin {L R A B : Fp} (c : Fp) (e : A = B) (h : L - R = c * (A - B)) : L = R := by
  apply f_sub
  have z : B - B = 0 := by grind
  rw [h, e, z, Fin.mul_zero]

theorem on_sum {x1 y1 x2 y2 x3 y3 d : Fp} (h1 : y1 * y1 - x1 * x1 = 1 + d * (x1 * x1 * (y1 * y1))) (h2 : y2 * y2 - x2 * x2 = 1 + d * (x2 * x2 * (y2 * y2)))
    (ha : 1 + d * (x1 * x2 * (y1 * y2)) ≠ 0) (hb : 1 - d * (x1 * x2 * (y1 * y2)) ≠ 0)
    (hx : x3 * (1 + d * (x1 * x2 * (y1 * y2))) = x1 * y2 + x2 * y1) (hy : y3 * (1 - d * (x1 * x2 * (y1 * y2))) = y1 * y2 + x1 * x2) : y3 * y3 - x3 * x3 = 1 + d * (x3 * x3 * (y3 * y3)) := by
  generalize hA : 1 + d * (x1 * x2 * (y1 * y2)) = A at *
  generalize hB : 1 - d * (x1 * x2 * (y1 * y2)) = B at *
  refine f_cancel (f_mul_ne (f_mul_ne ha ha) (f_mul_ne hb hb)) ?_
  have l : (y3 * y3 - x3 * x3) * (A * A * (B * B)) = (y3 * B) * (y3 * B) * (A * A) - (x3 * A) * (x3 * A) * (B * B) := by grind
  have r : (1 + d * (x3 * x3 * (y3 * y3))) * (A * A * (B * B)) = A * A * (B * B) + d * ((x3 * A) * (x3 * A) * ((y3 * B) * (y3 * B))) := by grind
  rw [l, r, hx, hy]
  clear l r hx hy ha hb x3 y3
  subst hA hB
  have e1 : y1 * y1 - x1 * x1 - 1 - d * (x1 * x1 * (y1 * y1)) = 0 := by grind
  have e2 : y2 * y2 - x2 * x2 - 1 - d * (x2 * x2 * (y2 * y2)) = 0 := by grind
  clear h1 h2
  have key : ((y1 * y2 + x1 * x2) * (y1 * y2 + x1 * x2) * ((1 + d * (x1 * x2 * (y1 * y2))) * (1 + d * (x1 * x2 * (y1 * y2)))) - (x1 * y2 + x2 * y1) * (x1 * y2 + x2 * y1) * ((1 - d * (x1 * x2 * (y1 * y2))) * (1 - d * (x1 * x2 * (y1 * y2))))) - ((1 + d * (x1 * x2 * (y1 * y2))) * (1 + d * (x1 * x2 * (y1 * y2))) * ((1 - d * (x1 * x2 * (y1 * y2))) * (1 - d * (x1 * x2 * (y1 * y2)))) + d * ((x1 * y2 + x2 * y1) * (x1 * y2 + x2 * y1) * ((y1 * y2 + x1 * x2) * (y1 * y2 + x1 * x2))))
    = (x1^2*y1^2*x2^4*y2^4*d^3 - x1^2*x2^4*y2^4*d^2 - x1^2*x2^4*y2^2*d + x1^2*x2^2*y2^4*d + y1^2*x2^4*y2^4*d^2 + y1^2*x2^4*y2^2*d - y1^2*x2^2*y2^4*d - x2^4*y2^4*d^2 - 2*x2^4*y2^4*d - 2*x2^4*y2^2 + x2^4 + 2*x2^2*y2^4 - 2*x2^2*y2^2*d - 4*x2^2*y2^2 + y2^4) * (y1 * y1 - x1 * x1 - 1 - d * (x1 * x1 * (y1 * y1))) + (x1^4*x2^2*y2^2*d + 2*x1^2*x2^2*y2^2*d + 2*x1^2*x2^2*y2^2 - x1^2*x2^2 + x1^2*y2^2 + y1^4*x2^2*y2^2*d - 2*y1^2*x2^2*y2^2*d - 2*y1^2*x2^2*y2^2 + y1^2*x2^2 - y1^2*y2^2 + x2^2*y2^2*d + 2*x2^2*y2^2 - x2^2 + y2^2 + 1) * (y2 * y2 - x2 * x2 - 1 - d * (x2 * x2 * (y2 * y2))) := by grind
  exact lin2 key e1 e2

/-- The sum of two points. -/
def padd (P Q : Pt) : Pt where
  x := (P.x * Q.y + Q.x * P.y) * fi (1 + dF * (P.x * Q.x * (P.y * Q.y)))
  y := (P.y * Q.y + P.x * Q.x) * fi (1 - dF * (P.x * Q.x * (P.y * Q.y)))
  on := by
    have ha := on_plus P.on Q.on
    have hb := on_minus P.on Q.on
    refine on_sum P.on Q.on ha hb ?_ ?_
    · have := f_inv ha
      generalize fi (1 + dF * (P.x * Q.x * (P.y * Q.y))) = c at *
      generalize 1 + dF * (P.x * Q.x * (P.y * Q.y)) = a at *
      grind
    · have := f_inv hb
      generalize fi (1 - dF * (P.x * Q.x * (P.y * Q.y))) = c at *
      generalize 1 - dF * (P.x * Q.x * (P.y * Q.y)) = a at *
      grind
theorem padd_x (P Q : Pt) : (padd P Q).x * (1 + dF * (P.x * Q.x * (P.y * Q.y))) = P.x * Q.y + Q.x * P.y := by
  have := f_inv (on_plus P.on Q.on)
  show (P.x * Q.y + Q.x * P.y) * fi _ * _ = _
  generalize fi (1 + dF * (P.x * Q.x * (P.y * Q.y))) = c at *
  generalize 1 + dF * (P.x * Q.x * (P.y * Q.y)) = a at *
  grind
theorem padd_y (P Q : Pt) : (padd P Q).y * (1 - dF * (P.x * Q.x * (P.y * Q.y))) = P.y * Q.y + P.x * Q.x := by
  have := f_inv (on_minus P.on Q.on)
  show (P.y * Q.y + P.x * Q.x) * fi _ * _ = _
  generalize fi (1 - dF * (P.x * Q.x * (P.y * Q.y))) = c at *
  generalize 1 - dF * (P.x * Q.x * (P.y * Q.y)) = a at *
  grind
/-- What fits is the sum. -/
theorem padd_of {P Q R : Pt} (hx : R.x * (1 + dF * (P.x * Q.x * (P.y * Q.y))) = P.x * Q.y + Q.x * P.y) (hy : R.y * (1 - dF * (P.x * Q.x * (P.y * Q.y))) = P.y * Q.y + P.x * Q.x) : R = padd P Q :=
  Pt.ext' (f_cancel (on_plus P.on Q.on) (hx.trans (padd_x P Q).symm)) (f_cancel (on_minus P.on Q.on) (hy.trans (padd_y P Q).symm))

theorem padd_comm (P Q : Pt) : padd P Q = padd Q P := by
  refine padd_of ?_ ?_
  · have := padd_x P Q
    have e : 1 + dF * (Q.x * P.x * (Q.y * P.y)) = 1 + dF * (P.x * Q.x * (P.y * Q.y)) := by grind
    rw [e, this]
    grind
  · have := padd_y P Q
    have e : 1 - dF * (Q.x * P.x * (Q.y * P.y)) = 1 - dF * (P.x * Q.x * (P.y * Q.y)) := by grind
    rw [e, this]
    grind

def pzero : Pt := ⟨0, 1, by unfold On; grind⟩
def pneg (P : Pt) : Pt := ⟨-P.x, P.y, by have := P.on; unfold On at *; grind⟩
theorem padd_zero (P : Pt) : padd P pzero = P := by
  refine (padd_of ?_ ?_).symm
  · show P.x * (1 + dF * (P.x * 0 * (P.y * 1))) = P.x * 1 + 0 * P.y
    grind
  · show P.y * (1 - dF * (P.x * 0 * (P.y * 1))) = P.y * 1 + P.x * 0
    grind
theorem zero_padd (P : Pt) : padd pzero P = P := by rw [padd_comm, padd_zero]
theorem padd_neg (P : Pt) : padd P (pneg P) = pzero := by
  have h := P.on
  unfold On at h
  refine (padd_of ?_ ?_).symm
  · show 0 * (1 + dF * (P.x * -P.x * (P.y * P.y))) = P.x * P.y + -P.x * P.y
    grind
  · show 1 * (1 - dF * (P.x * -P.x * (P.y * P.y))) = P.y * P.y + P.x * -P.x
    grind

set_option maxHeartbeats 2000000 in
theorem assoc_x {x1 y1 x2 y2 x3 y3 d : Fp} (e1 : y1 * y1 - x1 * x1 - 1 - d * (x1 * x1 * (y1 * y1)) = 0) (e2 : y2 * y2 - x2 * x2 - 1 - d * (x2 * x2 * (y2 * y2)) = 0) (e3 : y3 * y3 - x3 * x3 - 1 - d * (x3 * x3 * (y3 * y3)) = 0) :
    ((x1 * y2 + x2 * y1) * (1 - d * (x1 * x2 * (y1 * y2))) * y3 + x3 * ((y1 * y2 + x1 * x2) * (1 + d * (x1 * x2 * (y1 * y2))))) * ((1 + d * (x2 * x3 * (y2 * y3))) * (1 - d * (x2 * x3 * (y2 * y3))) + d * (x1 * y1 * ((x2 * y3 + x3 * y2) * (y2 * y3 + x2 * x3))))
    = (x1 * ((y2 * y3 + x2 * x3) * (1 + d * (x2 * x3 * (y2 * y3)))) + (x2 * y3 + x3 * y2) * (1 - d * (x2 * x3 * (y2 * y3))) * y1) * ((1 + d * (x1 * x2 * (y1 * y2))) * (1 - d * (x1 * x2 * (y1 * y2))) + d * ((x1 * y2 + x2 * y1) * (y1 * y2 + x1 * x2) * (x3 * y3))) := by
  refine lin3 (c1 := (-(x1 * x2 * x2 * x2 * x2 * y2 * y2 * y2 * x3 * x3 * y3 * d * d) - x1 * x2 * x2 * x2 * x2 * y2 * x3 * x3 * y3 * d - x1 * x2 * x2 * x2 * y2 * y2 * y2 * y2 * x3 * y3 * y3 * d * d - x1 * x2 * x2 * x2 * y2 * y2 * x3 * x3 * x3 * d - x1 * x2 * x2 * x2 * y2 * y2 * x3 * d + x1 * x2 * x2 * y2 * y2 * y2 * y3 * y3 * y3 * d - x1 * x2 * x2 * y2 * y2 * y2 * y3 * d + x1 * x2 * y2 * y2 * y2 * y2 * x3 * y3 * y3 * d + y1 * x2 * x2 * x2 * x2 * y2 * y2 * y2 * x3 * y3 * y3 * d * d + y1 * x2 * x2 * x2 * x2 * y2 * x3 * y3 * y3 * d + y1 * x2 * x2 * x2 * y2 * y2 * y2 * y2 * x3 * x3 * y3 * d * d + y1 * x2 * x2 * x2 * y2 * y2 * y3 * y3 * y3 * d - y1 * x2 * x2 * x2 * y2 * y2 * y3 * d - y1 * x2 * x2 * y2 * y2 * y2 * x3 * x3 * x3 * d - y1 * x2 * x2 * y2 * y2 * y2 * x3 * d - y1 * x2 * y2 * y2 * y2 * y2 * x3 * x3 * y3 * d)) (c2 := (x1 * x1 * x1 * x2 * x2 * y2 * x3 * x3 * y3 * d + x1 * x1 * x1 * x2 * y2 * y2 * x3 * y3 * y3 * d + x1 * x1 * x1 * x2 * x3 * x3 * x3 * y3 * y3 * d + x1 * x1 * x1 * x2 * x3 * x3 * x3 - x1 * x1 * x1 * x2 * x3 * y3 * y3 + x1 * x1 * x1 * x2 * x3 + x1 * x1 * x1 * y2 * x3 * x3 * y3 * y3 * y3 * d + x1 * x1 * x1 * y2 * x3 * x3 * y3 - x1 * x1 * x1 * y2 * y3 * y3 * y3 + x1 * x1 * x1 * y2 * y3 + x1 * x1 * y1 * x2 * x2 * y2 * x3 * x3 * x3 * y3 * y3 * d * d - x1 * x1 * y1 * x2 * x2 * y2 * x3 * y3 * y3 * d - x1 * x1 * y1 * x2 * y2 * y2 * x3 * x3 * y3 * y3 * y3 * d * d - x1 * x1 * y1 * x2 * y2 * y2 * x3 * x3 * y3 * d + x1 * x1 * y1 * x2 * x3 * x3 * y3 * y3 * y3 * d + x1 * x1 * y1 * x2 * x3 * x3 * y3 - x1 * x1 * y1 * x2 * y3 * y3 * y3 + x1 * x1 * y1 * x2 * y3 + x1 * x1 * y1 * y2 * x3 * x3 * x3 * y3 * y3 * d + x1 * x1 * y1 * y2 * x3 * x3 * x3 - x1 * x1 * y1 * y2 * x3 * y3 * y3 + x1 * x1 * y1 * y2 * x3 - x1 * y1 * y1 * x2 * x2 * y2 * x3 * x3 * y3 * y3 * y3 * d * d - x1 * y1 * y1 * x2 * x2 * y2 * x3 * x3 * y3 * d + x1 * y1 * y1 * x2 * y2 * y2 * x3 * x3 * x3 * y3 * y3 * d * d - x1 * y1 * y1 * x2 * y2 * y2 * x3 * y3 * y3 * d - x1 * y1 * y1 * x2 * x3 * x3 * x3 * y3 * y3 * d - x1 * y1 * y1 * x2 * x3 * x3 * x3 + x1 * y1 * y1 * x2 * x3 * y3 * y3 - x1 * y1 * y1 * x2 * x3 - x1 * y1 * y1 * y2 * x3 * x3 * y3 * y3 * y3 * d - x1 * y1 * y1 * y2 * x3 * x3 * y3 + x1 * y1 * y1 * y2 * y3 * y3 * y3 - x1 * y1 * y1 * y2 * y3 + x1 * x2 * x2 * y2 * x3 * x3 * y3 * d + x1 * x2 * y2 * y2 * x3 * y3 * y3 * d + x1 * x2 * x3 * x3 * x3 * y3 * y3 * d + x1 * x2 * x3 * x3 * x3 - x1 * x2 * x3 * y3 * y3 + x1 * x2 * x3 + x1 * y2 * x3 * x3 * y3 * y3 * y3 * d + x1 * y2 * x3 * x3 * y3 - x1 * y2 * y3 * y3 * y3 + x1 * y2 * y3 + y1 * y1 * y1 * x2 * x2 * y2 * x3 * y3 * y3 * d + y1 * y1 * y1 * x2 * y2 * y2 * x3 * x3 * y3 * d - y1 * y1 * y1 * x2 * x3 * x3 * y3 * y3 * y3 * d - y1 * y1 * y1 * x2 * x3 * x3 * y3 + y1 * y1 * y1 * x2 * y3 * y3 * y3 - y1 * y1 * y1 * x2 * y3 - y1 * y1 * y1 * y2 * x3 * x3 * x3 * y3 * y3 * d - y1 * y1 * y1 * y2 * x3 * x3 * x3 + y1 * y1 * y1 * y2 * x3 * y3 * y3 - y1 * y1 * y1 * y2 * x3 - y1 * x2 * x2 * y2 * x3 * y3 * y3 * d - y1 * x2 * y2 * y2 * x3 * x3 * y3 * d + y1 * x2 * x3 * x3 * y3 * y3 * y3 * d + y1 * x2 * x3 * x3 * y3 - y1 * x2 * y3 * y3 * y3 + y1 * x2 * y3 + y1 * y2 * x3 * x3 * x3 * y3 * y3 * d + y1 * y2 * x3 * x3 * x3 - y1 * y2 * x3 * y3 * y3 + y1 * y2 * x3)) (c3 := (-(x1 * x1 * x1 * x2 * x2 * x2 * x3) - x1 * x1 * x1 * x2 * x2 * y2 * y3 + x1 * x1 * x1 * x2 * y2 * y2 * x3 - x1 * x1 * x1 * x2 * x3 + x1 * x1 * x1 * y2 * y2 * y2 * y3 - x1 * x1 * x1 * y2 * y3 - x1 * x1 * y1 * x2 * x2 * x2 * y3 - x1 * x1 * y1 * x2 * x2 * y2 * x3 * d - x1 * x1 * y1 * x2 * x2 * y2 * x3 + x1 * x1 * y1 * x2 * y2 * y2 * y3 * d + x1 * x1 * y1 * x2 * y2 * y2 * y3 - x1 * x1 * y1 * x2 * y3 + x1 * x1 * y1 * y2 * y2 * y2 * x3 - x1 * x1 * y1 * y2 * x3 + x1 * y1 * y1 * x2 * x2 * x2 * x3 + x1 * y1 * y1 * x2 * x2 * y2 * y3 * d + x1 * y1 * y1 * x2 * x2 * y2 * y3 - x1 * y1 * y1 * x2 * y2 * y2 * x3 * d - x1 * y1 * y1 * x2 * y2 * y2 * x3 + x1 * y1 * y1 * x2 * x3 - x1 * y1 * y1 * y2 * y2 * y2 * y3 + x1 * y1 * y1 * y2 * y3 - x1 * x2 * x2 * x2 * x3 - x1 * x2 * x2 * y2 * y3 + x1 * x2 * y2 * y2 * x3 - x1 * x2 * x3 + x1 * y2 * y2 * y2 * y3 - x1 * y2 * y3 + y1 * y1 * y1 * x2 * x2 * x2 * y3 + y1 * y1 * y1 * x2 * x2 * y2 * x3 - y1 * y1 * y1 * x2 * y2 * y2 * y3 + y1 * y1 * y1 * x2 * y3 - y1 * y1 * y1 * y2 * y2 * y2 * x3 + y1 * y1 * y1 * y2 * x3 - y1 * x2 * x2 * x2 * y3 - y1 * x2 * x2 * y2 * x3 + y1 * x2 * y2 * y2 * y3 - y1 * x2 * y3 + y1 * y2 * y2 * y2 * x3 - y1 * y2 * x3)) ?_ e1 e2 e3
  clear e1 e2 e3
  grind
set_option maxHeartbeats 2000000 in
theorem assoc_y {x1 y1 x2 y2 x3 y3 d : Fp} (e1 : y1 * y1 - x1 * x1 - 1 - d * (x1 * x1 * (y1 * y1)) = 0) (e2 : y2 * y2 - x2 * x2 - 1 - d * (x2 * x2 * (y2 * y2)) = 0) (e3 : y3 * y3 - x3 * x3 - 1 - d * (x3 * x3 * (y3 * y3)) = 0) :
    ((y1 * y2 + x1 * x2) * (1 + d * (x1 * x2 * (y1 * y2))) * y3 + (x1 * y2 + x2 * y1) * (1 - d * (x1 * x2 * (y1 * y2))) * x3) * ((1 + d * (x2 * x3 * (y2 * y3))) * (1 - d * (x2 * x3 * (y2 * y3))) - d * (x1 * y1 * ((x2 * y3 + x3 * y2) * (y2 * y3 + x2 * x3))))
    = (y1 * ((y2 * y3 + x2 * x3) * (1 + d * (x2 * x3 * (y2 * y3)))) + x1 * ((x2 * y3 + x3 * y2) * (1 - d * (x2 * x3 * (y2 * y3))))) * ((1 + d * (x1 * x2 * (y1 * y2))) * (1 - d * (x1 * x2 * (y1 * y2))) - d * ((x1 * y2 + x2 * y1) * (y1 * y2 + x1 * x2) * (x3 * y3))) := by
  refine lin3 (c1 := (x1 * x2 * x2 * x2 * x2 * y2 * y2 * y2 * x3 * y3 * y3 * d * d + x1 * x2 * x2 * x2 * x2 * y2 * x3 * y3 * y3 * d + x1 * x2 * x2 * x2 * y2 * y2 * y2 * y2 * x3 * x3 * y3 * d * d + x1 * x2 * x2 * x2 * y2 * y2 * y3 * y3 * y3 * d - x1 * x2 * x2 * x2 * y2 * y2 * y3 * d - x1 * x2 * x2 * y2 * y2 * y2 * x3 * x3 * x3 * d - x1 * x2 * x2 * y2 * y2 * y2 * x3 * d - x1 * x2 * y2 * y2 * y2 * y2 * x3 * x3 * y3 * d - y1 * x2 * x2 * x2 * x2 * y2 * y2 * y2 * x3 * x3 * y3 * d * d - y1 * x2 * x2 * x2 * x2 * y2 * x3 * x3 * y3 * d - y1 * x2 * x2 * x2 * y2 * y2 * y2 * y2 * x3 * y3 * y3 * d * d - y1 * x2 * x2 * x2 * y2 * y2 * x3 * x3 * x3 * d - y1 * x2 * x2 * x2 * y2 * y2 * x3 * d + y1 * x2 * x2 * y2 * y2 * y2 * y3 * y3 * y3 * d - y1 * x2 * x2 * y2 * y2 * y2 * y3 * d + y1 * x2 * y2 * y2 * y2 * y2 * x3 * y3 * y3 * d)) (c2 := (-(x1 * x1 * x1 * x2 * x2 * y2 * x3 * y3 * y3 * d) - x1 * x1 * x1 * x2 * y2 * y2 * x3 * x3 * y3 * d + x1 * x1 * x1 * x2 * x3 * x3 * y3 * y3 * y3 * d + x1 * x1 * x1 * x2 * x3 * x3 * y3 - x1 * x1 * x1 * x2 * y3 * y3 * y3 + x1 * x1 * x1 * x2 * y3 + x1 * x1 * x1 * y2 * x3 * x3 * x3 * y3 * y3 * d + x1 * x1 * x1 * y2 * x3 * x3 * x3 - x1 * x1 * x1 * y2 * x3 * y3 * y3 + x1 * x1 * x1 * y2 * x3 + x1 * x1 * y1 * x2 * x2 * y2 * x3 * x3 * y3 * y3 * y3 * d * d + x1 * x1 * y1 * x2 * x2 * y2 * x3 * x3 * y3 * d - x1 * x1 * y1 * x2 * y2 * y2 * x3 * x3 * x3 * y3 * y3 * d * d + x1 * x1 * y1 * x2 * y2 * y2 * x3 * y3 * y3 * d + x1 * x1 * y1 * x2 * x3 * x3 * x3 * y3 * y3 * d + x1 * x1 * y1 * x2 * x3 * x3 * x3 - x1 * x1 * y1 * x2 * x3 * y3 * y3 + x1 * x1 * y1 * x2 * x3 + x1 * x1 * y1 * y2 * x3 * x3 * y3 * y3 * y3 * d + x1 * x1 * y1 * y2 * x3 * x3 * y3 - x1 * x1 * y1 * y2 * y3 * y3 * y3 + x1 * x1 * y1 * y2 * y3 - x1 * y1 * y1 * x2 * x2 * y2 * x3 * x3 * x3 * y3 * y3 * d * d + x1 * y1 * y1 * x2 * x2 * y2 * x3 * y3 * y3 * d + x1 * y1 * y1 * x2 * y2 * y2 * x3 * x3 * y3 * y3 * y3 * d * d + x1 * y1 * y1 * x2 * y2 * y2 * x3 * x3 * y3 * d - x1 * y1 * y1 * x2 * x3 * x3 * y3 * y3 * y3 * d - x1 * y1 * y1 * x2 * x3 * x3 * y3 + x1 * y1 * y1 * x2 * y3 * y3 * y3 - x1 * y1 * y1 * x2 * y3 - x1 * y1 * y1 * y2 * x3 * x3 * x3 * y3 * y3 * d - x1 * y1 * y1 * y2 * x3 * x3 * x3 + x1 * y1 * y1 * y2 * x3 * y3 * y3 - x1 * y1 * y1 * y2 * x3 - x1 * x2 * x2 * y2 * x3 * y3 * y3 * d - x1 * x2 * y2 * y2 * x3 * x3 * y3 * d + x1 * x2 * x3 * x3 * y3 * y3 * y3 * d + x1 * x2 * x3 * x3 * y3 - x1 * x2 * y3 * y3 * y3 + x1 * x2 * y3 + x1 * y2 * x3 * x3 * x3 * y3 * y3 * d + x1 * y2 * x3 * x3 * x3 - x1 * y2 * x3 * y3 * y3 + x1 * y2 * x3 - y1 * y1 * y1 * x2 * x2 * y2 * x3 * x3 * y3 * d - y1 * y1 * y1 * x2 * y2 * y2 * x3 * y3 * y3 * d - y1 * y1 * y1 * x2 * x3 * x3 * x3 * y3 * y3 * d - y1 * y1 * y1 * x2 * x3 * x3 * x3 + y1 * y1 * y1 * x2 * x3 * y3 * y3 - y1 * y1 * y1 * x2 * x3 - y1 * y1 * y1 * y2 * x3 * x3 * y3 * y3 * y3 * d - y1 * y1 * y1 * y2 * x3 * x3 * y3 + y1 * y1 * y1 * y2 * y3 * y3 * y3 - y1 * y1 * y1 * y2 * y3 + y1 * x2 * x2 * y2 * x3 * x3 * y3 * d + y1 * x2 * y2 * y2 * x3 * y3 * y3 * d + y1 * x2 * x3 * x3 * x3 * y3 * y3 * d + y1 * x2 * x3 * x3 * x3 - y1 * x2 * x3 * y3 * y3 + y1 * x2 * x3 + y1 * y2 * x3 * x3 * y3 * y3 * y3 * d + y1 * y2 * x3 * x3 * y3 - y1 * y2 * y3 * y3 * y3 + y1 * y2 * y3)) (c3 := (-(x1 * x1 * x1 * x2 * x2 * x2 * y3) - x1 * x1 * x1 * x2 * x2 * y2 * x3 + x1 * x1 * x1 * x2 * y2 * y2 * y3 - x1 * x1 * x1 * x2 * y3 + x1 * x1 * x1 * y2 * y2 * y2 * x3 - x1 * x1 * x1 * y2 * x3 - x1 * x1 * y1 * x2 * x2 * x2 * x3 - x1 * x1 * y1 * x2 * x2 * y2 * y3 * d - x1 * x1 * y1 * x2 * x2 * y2 * y3 + x1 * x1 * y1 * x2 * y2 * y2 * x3 * d + x1 * x1 * y1 * x2 * y2 * y2 * x3 - x1 * x1 * y1 * x2 * x3 + x1 * x1 * y1 * y2 * y2 * y2 * y3 - x1 * x1 * y1 * y2 * y3 + x1 * y1 * y1 * x2 * x2 * x2 * y3 + x1 * y1 * y1 * x2 * x2 * y2 * x3 * d + x1 * y1 * y1 * x2 * x2 * y2 * x3 - x1 * y1 * y1 * x2 * y2 * y2 * y3 * d - x1 * y1 * y1 * x2 * y2 * y2 * y3 + x1 * y1 * y1 * x2 * y3 - x1 * y1 * y1 * y2 * y2 * y2 * x3 + x1 * y1 * y1 * y2 * x3 - x1 * x2 * x2 * x2 * y3 - x1 * x2 * x2 * y2 * x3 + x1 * x2 * y2 * y2 * y3 - x1 * x2 * y3 + x1 * y2 * y2 * y2 * x3 - x1 * y2 * x3 + y1 * y1 * y1 * x2 * x2 * x2 * x3 + y1 * y1 * y1 * x2 * x2 * y2 * y3 - y1 * y1 * y1 * x2 * y2 * y2 * x3 + y1 * y1 * y1 * x2 * x3 - y1 * y1 * y1 * y2 * y2 * y2 * y3 + y1 * y1 * y1 * y2 * y3 - y1 * x2 * x2 * x2 * x3 - y1 * x2 * x2 * y2 * y3 + y1 * x2 * y2 * y2 * x3 - y1 * x2 * x3 + y1 * y2 * y2 * y2 * y3 - y1 * y2 * y3)) ?_ e1 e2 e3
  clear e1 e2 e3
  grind

end Go.Proofs.Ytdjdalaghfknoaa
