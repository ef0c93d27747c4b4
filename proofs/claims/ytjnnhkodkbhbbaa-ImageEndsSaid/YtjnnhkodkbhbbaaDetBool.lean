/- Equality of bools in a drawn region's one walk. Nothing here speaks of a program. -/
import Derived.Test.YtjnnhkodkbhbbaaDetAll
namespace Go.Proofs.Ytjnnhkodkbhbbaa
open Go.RowKit
set_option linter.unusedVariables false

section
variable {P : Program} {ops : Array Oper} {C : World → Prop} {D : Act → Prop}

theorem run_equalIn_bools {ty : TypeId} (hu : P.underlying ty = some .bool) (d : Nat) (a b : Bool) (w : World) : (Op.equalIn (d + 1) ty (.bool a) (.bool b)).run P w = .ok (a == b) w := by
  simp only [Op.equalIn, Sem.run_bind, run_underlying hu, Result.andThen_ok, Sem.run_pure]
theorem run_equal_bools {ty : TypeId} (hu : P.underlying ty = some .bool) (a b : Bool) (w : World) : (Op.equal ty (.bool a) (.bool b)).run P w = .ok (a == b) w :=
  run_equalIn_bools hu 9999 a b w
/-- A bool, held against itself. -/
theorem det_eqb {o : Oper} {rest : List Oper} {a : Act} {ty rt : TypeId} {x y : Operand} (b : Bool) (hu : P.underlying ty = some .bool) (hw : Region.wanted o (yielded ops a.tmps) = true) (ho : o.op = .binOp .eql ty x y rt) (hx : a.eval x = .bool b) (hy : a.eval y = .bool b)
    (next : wpDet P ops C D rest (a.put o.dst (.bool true))) : wpDet P ops C D (o :: rest) a :=
  det_val _ hw (fun w _ => by
    unfold execOp
    simp only [ho, hx, hy]
    simp [eqGuard, binOp, run_equal_bools hu]) next
end

end Go.Proofs.Ytjnnhkodkbhbbaa
