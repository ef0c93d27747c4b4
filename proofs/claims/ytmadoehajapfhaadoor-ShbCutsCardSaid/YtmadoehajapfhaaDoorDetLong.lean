/- Shifts and complements of words of 64 bits in a drawn region's one walk; a block of words read cell by cell. Nothing here speaks of a program. Each theorem names its own conditions. -/
import Derived.Test.YtmadoehajapfhaaDoorDetBool
import Derived.Test.YtmadoehajapfhaaDoorLongKit
namespace Go.Proofs.YtmadoehajapfhaaDoor
open Go.RowKit
set_option linter.unusedVariables false

theorem blk_q {w : World} {c : Nat} {l : List Q64} {t : TypeId} (h : Blk w c (ints .u64 (qs l)) t) {j : Nat} (hj : j < l.length) : w.cell? ⟨c, j, none⟩ = some (.int .u64 (qi (l.getD j 0#64))) := by
  rw [h.cell, ints_get (by rw [qs_length]; exact hj), qs_getD]

section
variable {P : Program} {ops : Array Oper} {C : World → Prop} {D : Act → Prop}
theorem qi_not (x : Q64) : bits .xor .u64 18446744073709551615 (qi x) = qi (~~~x) := by
  have e : (18446744073709551615 : Int) = qi (BitVec.allOnes 64) := rfl
  rw [e, qi_xor]
  rw [BitVec.allOnes_xor]
theorem det_qishr {o : Oper} {rest : List Oper} {a : Act} (ty rt : TypeId) (x y : Operand) (m : Q64) (n : Nat) (hw : Region.wanted o (yielded ops a.tmps) = true) (ho : o.op = .binOp .shr ty x y rt) (hx : a.eval x = .int .u64 (qi m)) (hy : a.eval y = .int .u64 (n : Int)) (hn : n ≤ 64)
    (next : wpDet P ops C D rest (a.put o.dst (.int .u64 (qi (m >>> n))))) : wpDet P ops C D (o :: rest) a :=
  det_val _ hw (fun w _ => by
    have e := qi_shr m n
    have h2 : ((n : Nat) : Int) ≤ 64 := by omega
    unfold execOp
    simp [ho, hx, hy, eqGuard, binOp]
    exact e) next
theorem det_qinot {o : Oper} {rest : List Oper} {a : Act} (ty : TypeId) (x : Operand) (m : Q64) (hw : Region.wanted o (yielded ops a.tmps) = true) (ho : o.op = .unOp .xor ty x) (hx : a.eval x = .int .u64 (qi m))
    (next : wpDet P ops C D rest (a.put o.dst (.int .u64 (qi (~~~m))))) : wpDet P ops C D (o :: rest) a :=
  det_val _ hw (fun w _ => by
    have e := qi_not m
    have h1 : (Op.intBits .xor .u64 18446744073709551615 (qi m)) = pure (.int .u64 (bits .xor .u64 18446744073709551615 (qi m))) := rfl
    have h2 : Op.unary .xor (.int .u64 (qi m)) = Op.intBits .xor .u64 18446744073709551615 (qi m) := rfl
    unfold execOp
    simp only [ho, hx, h2, h1, e]
    simp) next
end

end Go.Proofs.YtmadoehajapfhaaDoor
