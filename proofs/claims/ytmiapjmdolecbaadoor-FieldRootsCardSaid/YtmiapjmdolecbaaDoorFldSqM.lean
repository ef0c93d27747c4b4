/- Squares and their halves, in the words of the code's answers. No walk. Each theorem names its own conditions. -/
import Derived.Test.YtmiapjmdolecbaaDoorFldRootM
import Derived.Test.YtmiapjmdolecbaaDoorFldLawM
namespace Go.Proofs.YtmiapjmdolecbaaDoor
open Go.RowKit
set_option linter.unusedVariables false

theorem nb_inj {x y : Int} : nb x = nb y ↔ Cong x y := by
  constructor
  · intro h
    have h1 := nb_of x
    rw [h] at h1
    exact h1.symm.trans (nb_of y)
  · exact nb_cong
theorem rootB_iff {x : Int} (h : ¬ pP ∣ x) : rootB x = true ↔ Cong (x ^ pM) 1 := by
  rw [← root_found h]
  unfold rootB rootR
  by_cases h1 : nb (x ^ pE * x ^ pE) = nb x
  · rw [if_pos h1, decide_eq_true_iff]
    exact ⟨fun _ => Or.inl (nb_inj.1 h1), fun _ => h1⟩
  · rw [if_neg h1, decide_eq_true_iff]
    constructor
    · exact fun h2 => Or.inr (nb_inj.1 h2)
    · rintro (h2 | h2)
      · exact absurd (nb_inj.2 h2) h1
      · exact nb_inj.2 h2
/-- (p - 1) / 2, in bytes. -/
def halfL : List UInt8 := ((List.replicate 32 (255 : UInt8)).set 0 246).set 31 63
theorem halfL_length : halfL.length = 32 := by decide
theorem leN_halfL : leN halfL = pM := by decide +kernel
theorem one_nb : smL 1 = nb 1 := by decide +kernel
theorem minus_nb : nb (IL zer - IL (smL 1)) = nb (-1) := by decide +kernel
theorem half_one {x : Int} (h : nb x ≠ zer) (hb : rootB x = true) : nb (x ^ leN halfL) = smL 1 := by
  have h0 : ¬ pP ∣ x := fun hd => h ((nb_zero_iff x).2 hd)
  rw [leN_halfL, one_nb]
  exact nb_cong ((rootB_iff h0).1 hb)
theorem half_minus {x : Int} (h : nb x ≠ zer) (hb : rootB x = false) : nb (x ^ leN halfL) = nb (IL zer - IL (smL 1)) := by
  have h0 : ¬ pP ∣ x := fun hd => h ((nb_zero_iff x).2 hd)
  rw [leN_halfL, minus_nb]
  rcases half_power h0 with h1 | h1
  · rw [(rootB_iff h0).2 h1] at hb
    cases hb
  · exact nb_cong h1
theorem half_not {x : Int} (h : nb x ≠ zer) (hb : rootB x = false) : nb (x ^ leN halfL) ≠ smL 1 := by
  rw [half_minus h hb]
  decide +kernel
theorem rootB_congr {x y : Int} (h : Cong x y) (hx : ¬ pP ∣ x) : rootB x = rootB y := by
  have hy : ¬ pP ∣ y := fun hd => hx (cong_zero.1 (h.trans (cong_zero.2 hd)))
  rw [Bool.eq_iff_iff, rootB_iff hx, rootB_iff hy]
  exact ⟨fun h1 => (h.pow pM).symm.trans h1, fun h1 => (h.pow pM).trans h1⟩
theorem rootB_mul {x y : Int} (hx : nb x ≠ zer) (hy : nb y ≠ zer) : rootB (IL (nb (x * y))) = (rootB x == rootB y) := by
  have h0 : ¬ pP ∣ x := fun hd => hx ((nb_zero_iff x).2 hd)
  have h1 : ¬ pP ∣ y := fun hd => hy ((nb_zero_iff y).2 hd)
  have h2 : ¬ pP ∣ x * y := fun hd => by
    rcases p_domain hd with h | h
    · exact h0 h
    · exact h1 h
  rw [← rootB_congr (nb_of (x * y)).symm h2]
  have hm : (x * y) ^ pM = x ^ pM * y ^ pM := Int.mul_pow ..
  have e3 : rootB (x * y) = true ↔ (rootB x == rootB y) = true := by
    rw [rootB_iff h2, hm, beq_iff_eq]
    constructor
    · intro h
      rcases half_power h0 with a | a <;> rcases half_power h1 with b | b
      · rw [(rootB_iff h0).2 a, (rootB_iff h1).2 b]
      · exfalso
        have := h.symm.trans (a.mul b)
        exact one_not_minus (by simpa using this)
      · exfalso
        have := h.symm.trans (a.mul b)
        exact one_not_minus (by simpa using this)
      · have ha : rootB x = false := by
          cases hb : rootB x with
          | false => rfl
          | true => exact absurd (((rootB_iff h0).1 hb).symm.trans a) one_not_minus
        have hb : rootB y = false := by
          cases hb : rootB y with
          | false => rfl
          | true => exact absurd (((rootB_iff h1).1 hb).symm.trans b) one_not_minus
        rw [ha, hb]
    · intro h
      rcases half_power h0 with a | a
      · have hb := (rootB_iff h1).1 (h ▸ (rootB_iff h0).2 a)
        have := a.mul hb
        rwa [Int.mul_one] at this
      · rcases half_power h1 with b | b
        · have ha := (rootB_iff h0).1 (h.symm ▸ (rootB_iff h1).2 b)
          exact absurd (ha.symm.trans a) one_not_minus
        · have := a.mul b
          simpa using this
  exact Bool.eq_iff_iff.2 e3

section
variable {P : Program} {ops : Array Oper} {C : World → Prop} {D : Act → Prop}
/-- Two bools, held against each other. -/
theorem det_beq {o : Oper} {rest : List Oper} {a : Act} (ty rt : TypeId) (x y : Operand) (p q r : Bool) (hw : Region.wanted o (yielded ops a.tmps) = true) (ho : o.op = .binOp .eql ty x y rt) (hx : a.eval x = .bool p) (hy : a.eval y = .bool q) (hu : P.underlying ty = some .bool) (hr : (p == q) = r)
    (next : wpDet P ops C D rest (a.put o.dst (.bool r))) : wpDet P ops C D (o :: rest) a :=
  det_val _ hw (fun w _ => by
    have h1 : (Op.equal ty (.bool p) (.bool q)).run P w = .ok (p == q) w := run_equalIn_bool w 9999 ty p q hu
    unfold execOp
    simp [ho, hx, hy, eqGuard, binOp, h1, hr]) next
theorem det_not {o : Oper} {rest : List Oper} {a : Act} (ty : TypeId) (x : Operand) (p : Bool) (hw : Region.wanted o (yielded ops a.tmps) = true) (ho : o.op = .unOp .not ty x) (hx : a.eval x = .bool p)
    (next : wpDet P ops C D rest (a.put o.dst (.bool !p))) : wpDet P ops C D (o :: rest) a :=
  det_val _ hw (fun w _ => by
    unfold execOp
    simp [ho, hx, Op.unary]) next
end

end Go.Proofs.YtmiapjmdolecbaaDoor
