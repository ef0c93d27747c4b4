/- The steps of the ladder of X25519 (RFC 7748), over the points of the Edwards curve: a step doubles the one, and adds both. No program. Each theorem names its own conditions. -/
import Derived.Test.YtdjdalaghfknoaaEdwMul
namespace Go.Proofs.Ytdjdalaghfknoaa
set_option linter.unusedVariables false

theorem f_add_self {a : Fp} (h : a + a = 0) : a = 0 := by
  have : 2 * a = 0 := by grind
  rcases f_dom this with h | h
  · exact absurd h f_two_ne
  · exact h
/-- Sum and difference are nought: both are. -/
theorem f_both {a b : Fp} (h : a + b = 0) (g : a - b = 0) : a = 0 ∧ b = 0 := by
  have h1 : a + a = 0 := by grind
  have h2 := f_add_self h1
  subst h2
  rw [Fin.zero_add] at h
  exact ⟨rfl, h⟩
theorem f_sq {a : Fp} (h : a * a = 0) : a = 0 := by
  rcases f_dom h with h | h <;> exact h

theorem f_self (a : Fp) : a - a = 0 := by grind
theorem f_flip {a b : Fp} (h : a - b = 0) : b - a = 0 := by rw [f_sub h, f_self]
theorem f_comm (a b : Fp) : a + b = b + a := by grind
theorem f_neg_prod (a b c : Fp) : (-(a * b) - c) * (-(a * b) + c) = a * a * (b * b) - c * c := by grind
/-- X : Z tells the point P: X / Z = (1 + y) / (1 - y). -/
def Rep (P : Pt) (X Z : Fp) : Prop := X - Z = P.y * (X + Z) ∧ X + Z ≠ 0

theorem f_c_ne : (121666 : Fp) ≠ 0 := by
  have e : (121666 : Fp) = fp 121666 := by decide +kernel
  rw [e]
  intro h
  have := fp_zero_iff.1 h
  revert this
  decide +kernel

/-- A double, over the numbers. -/
theorem dbl_core {x y z d c : Fp} (hd : d * (c + 1) = -c) (hc : c + 1 ≠ 0) (h : y * y - x * x = 1 + d * (x * x * (y * y))) (hm : 1 - d * (x * x * (y * y)) ≠ 0) (hz : z * (1 - d * (x * x * (y * y))) = y * y + x * x) :
    y * y - (1 - y * y) * (1 + c * (1 - y * y)) = z * (y * y + (1 - y * y) * (1 + c * (1 - y * y))) := by
  have m1 : 1 - d * (x * x * (y * y)) = 2 + x * x - y * y := by grind
  rw [m1] at hm hz
  apply f_cancel hm
  have r : z * (y * y + (1 - y * y) * (1 + c * (1 - y * y))) * (2 + x * x - y * y) = z * (2 + x * x - y * y) * (y * y + (1 - y * y) * (1 + c * (1 - y * y))) := by grind
  rw [r, hz]
  clear r hm hz m1
  -- x^2 (c + 1 - c y^2) = (c + 1) (y^2 - 1)
  have k : x * x * (c + 1 - c * (y * y)) = (c + 1) * (y * y - 1) := by
    have k1 : (c + 1) * (y * y - x * x) = (c + 1) + d * (c + 1) * (x * x * (y * y)) := by rw [h]; grind
    rw [hd] at k1
    grind
  have k2 : (1 + c - c * (y * y)) * (1 + x * x) = y * y := by grind
  have e1 : (y * y - (1 - y * y) * (1 + c * (1 - y * y))) * (2 + x * x - y * y) - (y * y + x * x) * (y * y + (1 - y * y) * (1 + c * (1 - y * y))) = 2 * (1 - y * y) * (y * y - (1 + c - c * (y * y)) * (1 + x * x)) := by
    clear k k2 h hd hc
    grind
  apply f_sub
  rw [e1, k2]
  clear e1 k k2 h hd hc
  grind
theorem rep_dbl {P : Pt} {X Z : Fp} (h : Rep P X Z) :
    Rep (padd P P) ((X + Z) * (X + Z) * ((X - Z) * (X - Z))) (((X + Z) * (X + Z) - (X - Z) * (X - Z)) * ((X + Z) * (X + Z) + 121665 * ((X + Z) * (X + Z) - (X - Z) * (X - Z)))) := by
  obtain ⟨h1, h2⟩ := h
  rw [h1]
  generalize X + Z = a at h2
  clear h1
  have hd : dF * (121665 + 1) = -121665 := by
    have e : (121665 : Fp) + 1 = 121666 := by decide +kernel
    rw [e]
    exact dF_eq
  have hc : (121665 : Fp) + 1 ≠ 0 := by
    have e : (121665 : Fp) + 1 = 121666 := by decide +kernel
    rw [e]
    exact f_c_ne
  have key := dbl_core hd hc P.on (on_minus P.on P.on) (padd_y P P)
  unfold Rep
  generalize (padd P P).y = z at key ⊢
  generalize (121665 : Fp) = c at *
  generalize hy : P.y = y at *
  have s : a * a * (y * a * (y * a)) = a * a * (a * a) * (y * y) := by grind
  have t : (a * a - y * a * (y * a)) * (a * a + c * (a * a - y * a * (y * a))) = a * a * (a * a) * ((1 - y * y) * (1 + c * (1 - y * y))) := by grind
  rw [s, t]
  have ha : a * a * (a * a) ≠ 0 := f_mul_ne (f_mul_ne h2 h2) (f_mul_ne h2 h2)
  generalize a * a * (a * a) = k at *
  refine ⟨?_, fun hn => ?_⟩
  · have e1 : k * (y * y) - k * ((1 - y * y) * (1 + c * (1 - y * y))) = k * (y * y - (1 - y * y) * (1 + c * (1 - y * y))) := by grind
    rw [e1, key]
    clear e1 key
    grind
  · have e1 : k * (y * y) + k * ((1 - y * y) * (1 + c * (1 - y * y))) = (y * y + (1 - y * y) * (1 + c * (1 - y * y))) * k := by grind
    rw [e1] at hn
    rcases f_dom hn with hn | hn
    · rw [hn, Fin.mul_zero] at key
      obtain ⟨g1, g2⟩ := f_both hn key
      have g3 := f_sq g1
      subst g3
      apply hc
      have : (1 - 0 * 0) * (1 + c * (1 - 0 * 0)) = c + 1 := by grind
      rw [← this]
      exact g2
    · exact ha hn

/-- A sum whose difference is known, over the numbers. -/
theorem dif_core {x2 y2 x3 y3 s u d : Fp} (h2 : y2 * y2 - x2 * x2 - 1 - d * (x2 * x2 * (y2 * y2)) = 0) (h3 : y3 * y3 - x3 * x3 - 1 - d * (x3 * x3 * (y3 * y3)) = 0)
    (ha : 1 + d * (x2 * x3 * (y2 * y3)) ≠ 0) (hb : 1 - d * (x2 * x3 * (y2 * y3)) ≠ 0)
    (hs : s * (1 - d * (x2 * x3 * (y2 * y3))) = y2 * y3 + x2 * x3) (hu : u * (1 + d * (x2 * x3 * (y2 * y3))) = y2 * y3 - x2 * x3) :
    (y2 + y3) * (y2 + y3) * ((1 - s) * (1 - u)) = (y3 - y2) * (y3 - y2) * ((1 + s) * (1 + u)) := by
  apply f_cancel (f_mul_ne ha hb)
  have l : (y2 + y3) * (y2 + y3) * ((1 - s) * (1 - u)) * ((1 + d * (x2 * x3 * (y2 * y3))) * (1 - d * (x2 * x3 * (y2 * y3)))) = (y2 + y3) * (y2 + y3) * ((1 - d * (x2 * x3 * (y2 * y3)) - s * (1 - d * (x2 * x3 * (y2 * y3)))) * (1 + d * (x2 * x3 * (y2 * y3)) - u * (1 + d * (x2 * x3 * (y2 * y3))))) := by
    generalize d * (x2 * x3 * (y2 * y3)) = e
    clear hs hu ha hb h2 h3
    grind
  have r : (y3 - y2) * (y3 - y2) * ((1 + s) * (1 + u)) * ((1 + d * (x2 * x3 * (y2 * y3))) * (1 - d * (x2 * x3 * (y2 * y3)))) = (y3 - y2) * (y3 - y2) * ((1 - d * (x2 * x3 * (y2 * y3)) + s * (1 - d * (x2 * x3 * (y2 * y3)))) * (1 + d * (x2 * x3 * (y2 * y3)) + u * (1 + d * (x2 * x3 * (y2 * y3))))) := by
    generalize d * (x2 * x3 * (y2 * y3)) = e
    clear hs hu ha hb h2 h3
    grind
  rw [l, r, hs, hu]
  clear l r hs hu ha hb
  refine lin2 (c1 := (4 * y2 * x3 * x3 * y3 * y3 * y3 * d + 4 * y2 * x3 * x3 * y3)) (c2 := (4 * y2 * y2 * y2 * y3 - 4 * y2 * y3)) ?_ h2 h3
  clear h2 h3
  grind

theorem rep_dif {P2 P3 Q : Pt} {X2 Z2 X3 Z3 x1 : Fp} (h2 : Rep P2 X2 Z2) (h3 : Rep P3 X3 Z3) (hq : padd P2 Q = P3 ∨ padd P3 Q = P2) (hx : x1 * (1 - Q.y) = 1 + Q.y) (hx0 : x1 ≠ 0) :
    Rep (padd P2 P3) (((X3 - Z3) * (X2 + Z2) + (X3 + Z3) * (X2 - Z2)) * ((X3 - Z3) * (X2 + Z2) + (X3 + Z3) * (X2 - Z2))) (x1 * (((X3 - Z3) * (X2 + Z2) - (X3 + Z3) * (X2 - Z2)) * ((X3 - Z3) * (X2 + Z2) - (X3 + Z3) * (X2 - Z2)))) := by
  obtain ⟨h2a, h2b⟩ := h2
  obtain ⟨h3a, h3b⟩ := h3
  rw [h2a, h3a]
  generalize X2 + Z2 = a at h2b
  generalize X3 + Z3 = c at h3b
  clear h2a h3a
  -- the difference's y
  have hu : Q.y * (1 + dF * (P2.x * P3.x * (P2.y * P3.y))) = P2.y * P3.y - P2.x * P3.x := by
    rcases hq with hq | hq
    · have e : Q = padd (pneg P2) P3 := by rw [← hq, ← padd_assoc, padd_comm (pneg P2), padd_neg, zero_padd]
      have := padd_y (pneg P2) P3
      rw [← e] at this
      have l : 1 + dF * (P2.x * P3.x * (P2.y * P3.y)) = 1 - dF * ((pneg P2).x * P3.x * ((pneg P2).y * P3.y)) := by
        show _ = 1 - dF * (-P2.x * P3.x * (P2.y * P3.y))
        generalize P2.x = x2; generalize P3.x = x3; generalize P2.y = y2; generalize P3.y = y3
        grind
      rw [l, this]
      show P2.y * P3.y + -P2.x * P3.x = _
      generalize P2.x = x2; generalize P3.x = x3; generalize P2.y = y2; generalize P3.y = y3
      grind
    · have e : Q = padd (pneg P3) P2 := by rw [← hq, ← padd_assoc, padd_comm (pneg P3), padd_neg, zero_padd]
      have := padd_y (pneg P3) P2
      rw [← e] at this
      have l : 1 + dF * (P2.x * P3.x * (P2.y * P3.y)) = 1 - dF * ((pneg P3).x * P2.x * ((pneg P3).y * P2.y)) := by
        show _ = 1 - dF * (-P3.x * P2.x * (P3.y * P2.y))
        generalize P2.x = x2; generalize P3.x = x3; generalize P2.y = y2; generalize P3.y = y3
        grind
      rw [l, this]
      show P3.y * P2.y + -P3.x * P2.x = _
      generalize P2.x = x2; generalize P3.x = x3; generalize P2.y = y2; generalize P3.y = y3
      grind
  have on2 := P2.on
  have on3 := P3.on
  have key := dif_core P2.on.zero P3.on.zero (on_plus P2.on P3.on) (on_minus P2.on P3.on) (padd_y P2 P3) hu
  unfold Rep
  unfold On at on2 on3
  clear hq
  generalize (padd P2 P3).y = s at key ⊢
  generalize Q.y = u at *
  generalize P2.y = y2 at *
  generalize P3.y = y3 at *
  generalize P2.x = x2 at *
  generalize P3.x = x3 at *
  have e1 : (y3 * c * a + c * (y2 * a)) * (y3 * c * a + c * (y2 * a)) = c * a * (c * a) * ((y2 + y3) * (y2 + y3)) := by
    clear key hu hx on2 on3
    grind
  have e2 : x1 * ((y3 * c * a - c * (y2 * a)) * (y3 * c * a - c * (y2 * a))) = c * a * (c * a) * (x1 * ((y3 - y2) * (y3 - y2))) := by
    clear key hu hx on2 on3
    grind
  rw [e1, e2]
  clear e1 e2
  have hk : c * a * (c * a) ≠ 0 := f_mul_ne (f_mul_ne h3b h2b) (f_mul_ne h3b h2b)
  generalize c * a * (c * a) = k at hk
  clear h2b h3b
  have hu1 : 1 - u ≠ 0 := fun e => by
    rw [e, Fin.mul_zero] at hx
    have : u = 1 := by grind
    subst this
    have h2 : (2 : Fp) = 0 := by
      have : (2 : Fp) = 1 + 1 := by decide +kernel
      rw [this, ← hx]
    exact f_two_ne h2
  -- (y2 + y3)^2 (1 - s) = x1 (y3 - y2)^2 (1 + s)
  have main : (y2 + y3) * (y2 + y3) * (1 - s) = x1 * ((y3 - y2) * (y3 - y2)) * (1 + s) := by
    apply f_cancel hu1
    have r : x1 * ((y3 - y2) * (y3 - y2)) * (1 + s) * (1 - u) = (y3 - y2) * (y3 - y2) * ((1 + s) * (x1 * (1 - u))) := by
      clear key hu hx on2 on3
      grind
    rw [r, hx, ← key]
    clear key r hu hx on2 on3
    grind
  refine ⟨?_, fun hn => ?_⟩
  · have t : (y2 + y3) * (y2 + y3) - x1 * ((y3 - y2) * (y3 - y2)) = s * ((y2 + y3) * (y2 + y3) + x1 * ((y3 - y2) * (y3 - y2))) := by
      clear key hu hx on2 on3
      generalize (y2 + y3) * (y2 + y3) = A at *
      generalize x1 * ((y3 - y2) * (y3 - y2)) = B at *
      grind
    clear key hu hx on2 on3 main
    generalize (y2 + y3) * (y2 + y3) = A at *
    generalize x1 * ((y3 - y2) * (y3 - y2)) = B at *
    have l : k * A - k * B = k * (A - B) := by clear t; grind
    have r : s * (k * A + k * B) = k * (s * (A + B)) := by clear t; grind
    rw [l, r, t]
  · have n1 : k * ((y2 + y3) * (y2 + y3) + x1 * ((y3 - y2) * (y3 - y2))) = 0 := by
      rw [← hn]
      clear key hu hx on2 on3 main hn
      grind
    have n2 : (y2 + y3) * (y2 + y3) + x1 * ((y3 - y2) * (y3 - y2)) = 0 := by
      rcases f_dom n1 with e | e
      · exact absurd e hk
      · exact e
    have n3 : (y2 + y3) * (y2 + y3) - x1 * ((y3 - y2) * (y3 - y2)) = 0 := by
      have : (y2 + y3) * (y2 + y3) - x1 * ((y3 - y2) * (y3 - y2)) = s * ((y2 + y3) * (y2 + y3) + x1 * ((y3 - y2) * (y3 - y2))) := by
        clear key hu hx on2 on3 n1 n2 hn
        generalize (y2 + y3) * (y2 + y3) = A at *
        generalize x1 * ((y3 - y2) * (y3 - y2)) = B at *
        grind
      rw [this, n2, Fin.mul_zero]
    obtain ⟨m1, m2⟩ := f_both n2 n3
    have m3 := f_sq m1
    have m4 : y3 - y2 = 0 := by
      rcases f_dom m2 with e | e
      · exact absurd e hx0
      · exact f_sq e
    clear n1 n2 n3 m1 m2 hn main key
    have m5 : y3 + y2 = 0 := by rw [← m3]; grind
    obtain ⟨z3, z2⟩ := f_both m5 m4
    subst z3 z2
    simp only [Fin.mul_zero, Fin.add_zero] at on2 on3 hu
    -- both points have y = 0: x^2 = -1, and the difference is nought or its opposite
    have q2 : x2 * x2 = -1 := lin (-1) on2 (by clear hu hx on3 on2 m3 m4 m5; generalize x2 * x2 = A; grind)
    have q3 : x3 * x3 = -1 := lin (-1) on3 (by clear hu hx on3 on2 m3 m4 m5 q2; generalize x3 * x3 = A; grind)
    have q4 : u = -(x2 * x3) := lin 1 hu (by clear hu hx on2 on3 m3 m4 m5 q2 q3; generalize x2 * x3 = A; grind)
    have q5 : (u - 1) * (u + 1) = 0 := by
      rw [q4, f_neg_prod, q2, q3]
      decide +kernel
    rcases f_dom q5 with e | e
    · exact hu1 (f_flip e)
    · apply hx0
      have hz : x1 * (1 - u) = 0 := by rw [hx, f_comm, e]
      rcases f_dom hz with e | e
      · exact e
      · exact absurd e hu1

end Go.Proofs.Ytdjdalaghfknoaa
