/- Texts that belong together, one behind the other. -/
import Derived.Deep.RegionHeld
import Derived.Great.BuildSlice
import Derived.Deep.Quiet
import Derived.OrdersHeld
import Derived.ChangeKeysEq
import Derived.Deep.MidRow
import Derived.WalkKit
import Derived.WalkSpells
import Derived.WalkLawsBesides
import Derived.Lib.Hide
import Derived.Deep.QuietTactic
import Derived.BigQuiet
import Derived.Deep.RegionHeld3
import Derived.Deep.AppendLies
import Derived.OneCell
import Derived.Laws.Slices
import Derived.Test.YtckggbkoabmjiaaDoorQz01
namespace Go.Proofs.YtckggbkoabmjiaaDoor
set_option linter.unusedVariables false
set_option linter.unusedSimpArgs false
open Go.RowKit
section
section
variable {P : Program} {ops : Array Oper} {S : World → Prop}
theorem yi_eql {o : Oper} {a : Act} (ty rt e : TypeId) (x y : Operand) (n : Nat) (i : TypeInfo) (xs ys : List UInt8) (r : Bool) (hw : Region.wanted o (yielded ops a.tmps) = true) (ho : o.op = .binOp .eql ty x y rt) (hb : decide (xs = ys) = r)
  (hu : P.underlying ty = some (.array n e)) (he : P.underlying e = some (.int .u8)) (hi : P.info? e = some i) (hc : P.cellsOf e = 1) (hg : P.eqGuardType P.depth ty = false)
  (hx : a.eval x = .agg (xs.map bval).toArray) (hy : a.eval y = .agg (ys.map bval).toArray) (lx : xs.length = n) (ly : ys.length = n) : YieldsIf P ops S o (.bool r) a :=
 yi_val _ hw (fun w _ => by
  have h1 := run_equal_bytes hu he hi hc xs ys lx ly w
  rw [hb] at h1
  unfold execOp
  simp [ho, hx, hy, eqGuard, hg, binOp, h1])
end
end
section
section
variable {P : Program} {w : World}
theorem rowB3 {v x y z : Value} {l m n : List UInt8} (h : Row1 w v [x, y, z]) (hx : Row1 w x (l.map bval)) (hy : Row1 w y (m.map bval)) (hz : Row1 w z (n.map bval)) : RowB w v [l, m, n] :=
 ⟨_, h, rfl, fun i u k hu hk => by
  match i with
  | 0 => simp at hu hk; subst hu; subst hk; exact hx
  | 1 => simp at hu hk; subst hu; subst hk; exact hy
  | 2 => simp at hu hk; subst hu; subst hk; exact hz
  | i + 3 => simp at hu⟩
end
end
end Go.Proofs.YtckggbkoabmjiaaDoor
