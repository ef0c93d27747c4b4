/- Shifts and complements of words of 32 bits in a drawn region's one walk; a block of words read cell by cell. Nothing here speaks of a program. Each theorem names its own conditions. -/
import Derived.Test.YtjnnhkodkbhbbaaDetBool
import Derived.Test.YtjnnhkodkbhbbaaWordKit
namespace Go.Proofs.Ytjnnhkodkbhbbaa
open Go.RowKit
set_option linter.unusedVariables false

theorem blk_w {w : World} {c : Nat} {l : List W32} {t : TypeId} (h : Blk w c (ints .u32 (ws l)) t) {j : Nat} (hj : j < l.length) : w.cell? ⟨c, j, none⟩ = some (.int .u32 (wi (l.getD j 0#32))) := by
  rw [h.cell, ints_get (by rw [ws_length]; exact hj), ws_getD]

section
variable {P : Program} {ops : Array Oper} {C : World → Prop} {D : Act → Prop}
theorem wi_not (x : W32) : bits .xor .u32 4294967295 (wi x) = wi (~~~x) := by
  have e : (4294967295 : Int) = wi (BitVec.allOnes 32) := rfl
  rw [e, wi_xor]
  rw [BitVec.allOnes_xor]
theorem det_wishr {o : Oper} {rest : List Oper} {a : Act} (ty rt : TypeId) (x y : Operand) (m : W32) (n : Nat) (hw : Region.wanted o (yielded ops a.tmps) = true) (ho : o.op = .binOp .shr ty x y rt) (hx : a.eval x = .int .u32 (wi m)) (hy : a.eval y = .int .u64 (n : Int)) (hn : n ≤ 32)
    (next : wpDet P ops C D rest (a.put o.dst (.int .u32 (wi (m >>> n))))) : wpDet P ops C D (o :: rest) a :=
  det_val _ hw (fun w _ => by
    have e := wi_shr m n
    have h2 : ((n : Nat) : Int) ≤ 32 := by omega
    unfold execOp
    simp [ho, hx, hy, eqGuard, binOp]
    exact e) next
theorem det_winot {o : Oper} {rest : List Oper} {a : Act} (ty : TypeId) (x : Operand) (m : W32) (hw : Region.wanted o (yielded ops a.tmps) = true) (ho : o.op = .unOp .xor ty x) (hx : a.eval x = .int .u32 (wi m))
    (next : wpDet P ops C D rest (a.put o.dst (.int .u32 (wi (~~~m))))) : wpDet P ops C D (o :: rest) a :=
  det_val _ hw (fun w _ => by
    have e := wi_not m
    have h1 : (Op.intBits .xor .u32 4294967295 (wi m)) = pure (.int .u32 (bits .xor .u32 4294967295 (wi m))) := rfl
    have h2 : Op.unary .xor (.int .u32 (wi m)) = Op.intBits .xor .u32 4294967295 (wi m) := rfl
    unfold execOp
    simp only [ho, hx, h2, h1, e]
    simp) next
end

end Go.Proofs.Ytjnnhkodkbhbbaa
