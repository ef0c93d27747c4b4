/- Conversions between kinds of whole numbers, and shifts by a literal, in a drawn region's one walk. Nothing here speaks of a program. Each theorem names its own conditions. -/
import Derived.Test.YtjnnhkodkbhbbaaDetAll
import Derived.Laws.Entries
namespace Go.Proofs.Ytjnnhkodkbhbbaa
open Go.RowKit
set_option linter.unusedVariables false

section
variable {P : Program} {ops : Array Oper} {C : World → Prop} {D : Act → Prop}
theorem det_conv {o : Oper} {rest : List Oper} {a : Act} (src dst : TypeId) (x : Operand) (k k' : IntKind) (n r : Int) (hw : Region.wanted o (yielded ops a.tmps) = true) (ho : o.op = .convert src dst x) (hx : a.eval x = .int k n)
    (hs : (P.underlying src).isSome = true) (hd : P.underlying dst = some (.int k')) (hr : k'.wrap n = r) (next : wpDet P ops C D rest (a.put o.dst (.int k' r))) : wpDet P ops C D (o :: rest) a :=
  det_val _ hw (fun w _ => by
    obtain ⟨u, hu⟩ := Option.isSome_iff_exists.1 hs
    have h : (convert src dst (.int k n)).run P w = .ok (.int k' r) w := by
      simp [convert, run_underlying hu, run_underlying hd, Conv.intToInt, hr]
    unfold execOp
    simp only [ho, hx, Sem.run_bind, h, Result.andThen_ok, Sem.run_pure]) next
theorem det_shlk {o : Oper} {rest : List Oper} {a : Act} (ty rt : TypeId) (x y : Operand) (k ky : IntKind) (m r : Int) (n : Nat) (hw : Region.wanted o (yielded ops a.tmps) = true) (ho : o.op = .binOp .shl ty x y rt) (hx : a.eval x = .int k m) (hy : a.eval y = .int ky (n : Int)) (hn : n ≤ k.bits)
    (hr : k.wrap (m * 2 ^ n) = r) (next : wpDet P ops C D rest (a.put o.dst (.int k r))) : wpDet P ops C D (o :: rest) a :=
  det_val _ hw (fun w _ => by
    have h3 : ¬ ((n : Int) < 0) := by omega
    have h4 : Op.shift .shl k m ky (n : Int) = pure (.int k r) := by
      unfold Op.shift
      rw [if_neg h3]
      simp only [Int.toNat_natCast, Nat.min_eq_left hn, hr]
    have h5 : binOp .shl ty (.int k m) (.int ky (n : Int)) = Op.shift .shl k m ky (n : Int) := rfl
    unfold execOp
    simp only [ho, hx, hy, h5, h4]
    simp [eqGuard]) next
end

end Go.Proofs.Ytjnnhkodkbhbbaa
