/- Equality of arrays of bytes in a plain region's walk. Nothing here speaks of a program. Each theorem names its own conditions. -/
import Derived.Test.YtjnnhkodkbhbbaaDetSteps
namespace Go.Proofs.Ytjnnhkodkbhbbaa
open Go.RowKit
set_option linter.unusedVariables false

section
variable {P : Program} {ops : Array Oper} {Q : Exit → Act → World → Prop}

/-- Two arrays of bytes, held against each other, in a region that keeps the text's order. -/
theorem wpList_eql {rest : List Oper} {o : Oper} {a : Act} {w : World} (hw : Region.wanted o (yielded ops a.tmps) = true) (b : BinOp) (ty rt e : TypeId) (x y : Operand) (n : Nat) (i : TypeInfo) (xs ys : List UInt8) (r : Bool) (ho : o.op = .binOp b ty x y rt)
    (hb : b = .eql ∧ decide (xs = ys) = r ∨ b = .neq ∧ decide (xs = ys) = !r)
    (hu : P.underlying ty = some (.array n e)) (he : P.underlying e = some (.int .u8)) (hi : P.info? e = some i) (hc : P.cellsOf e = 1) (hg : P.eqGuardType P.depth ty = false)
    (hx : a.eval x = .agg (xs.map bval).toArray) (hy : a.eval y = .agg (ys.map bval).toArray) (lx : xs.length = n) (ly : ys.length = n)
    (next : wpList P ops Q rest (a.put o.dst (.bool r)) w) : wpList P ops Q (o :: rest) a w := by
  refine wpList_step fun K hK => ?_
  rw [if_pos hw]
  have h1 := run_equal_bytes hu he hi hc xs ys lx ly w
  unfold Oper.wp execOp
  rcases hb with ⟨rfl, hb⟩ | ⟨rfl, hb⟩
  · rw [hb] at h1
    simp only [ho, hx, hy]
    simp [eqGuard, hg, binOp, h1]
    exact hK _ _ next
  · rw [hb] at h1
    simp only [ho, hx, hy]
    simp [eqGuard, hg, binOp, h1]
    exact hK _ _ next
end

end Go.Proofs.Ytjnnhkodkbhbbaa
