/- The numbers of ScalarLong. Each theorem names its own conditions. -/
import Derived.Test.YtoebokeehhfboaaDoorSclLawShifts
import Derived.Test.YtoebokeehhfboaaDoorRefQM
import Derived.Laws.CopyOwn
namespace Go.Proofs.YtoebokeehhfboaaDoor
open Go.RowKit
set_option linter.unusedVariables false
set_option linter.unusedSimpArgs false

def qL : List UInt8 := [237, 211, 245, 92, 26, 99, 18, 88, 214, 156, 247, 162, 222, 249, 222, 20, 0, 0, 0, 0, 0, 0, 0, 0, 0, 0, 0, 0, 0, 0, 0, 16]
/-- q - 1. -/
def qM : List UInt8 := [236, 211, 245, 92, 26, 99, 18, 88, 214, 156, 247, 162, 222, 249, 222, 20, 0, 0, 0, 0, 0, 0, 0, 0, 0, 0, 0, 0, 0, 0, 0, 16]
theorem qL_length : qL.length = 32 := rfl
theorem qM_length : qM.length = 32 := rfl
theorem qL_zero : nq ((leN (qL.take 64) : Nat) : Int) = zer := by decide +kernel
theorem qL_less : lessB qL = false := by decide +kernel
theorem qM_less : lessB qM = true := by decide +kernel
theorem leN_qM : ((leN qM : Nat) : Int) = qQ - 1 := by decide +kernel
theorem qM_self : nq (qQ - 1) = qM := by decide +kernel
theorem qM_set : ((qL.map bval).set 0 (.int .u8 236)) = qM.map bval := rfl
theorem qL_splice : splice (ints .u8 (List.replicate 32 0)) 0 (qL.map bval) = qL.map bval := by kernel_rfl
def wantL (x : UInt8) : List UInt8 := if x = 0 then qM else smL (x - 1)
theorem wantL_length (x : UInt8) : (wantL x).length = 32 := by unfold wantL; split; exact qM_length; exact smL_length _
theorem want_zero (x : UInt8) (h : x.toNat = 0) : wantL x = qM := by
  unfold wantL
  rw [if_pos (UInt8.toNat_inj.1 (by simpa using h))]
theorem pred_val (x : UInt8) (h : 0 < x.toNat) : ((x - 1).toNat : Int) = (x.toNat : Int) - 1 := by
  have hx := x.toNat_lt
  rw [UInt8.toNat_sub]
  show (((2 ^ 8 - 1 + x.toNat) % 2 ^ 8 : Nat) : Int) = _
  omega
theorem want_pos (x : UInt8) (h : 0 < x.toNat) : wantL x = smL (x - 1) := by
  unfold wantL
  rw [if_neg (fun e => by subst e; exact absurd h (by decide))]
theorem want_eq (x : UInt8) : nq (((leN qM : Nat) : Int) + ((leN (smL x) : Nat) : Int)) = wantL x := by
  rw [leN_qM, leN_smL]
  have hx := x.toNat_lt
  rcases Nat.eq_zero_or_pos x.toNat with h | h
  · rw [want_zero x h, h]
    exact qM_self
  · rw [want_pos x h]
    have e : nq (qQ - 1 + (x.toNat : Int)) = nq ((leN (smL (x - 1)) : Nat) : Int) := by
      refine nq_congr ?_
      rw [leN_smL, pred_val x h]
      rw [show qQ - 1 + (x.toNat : Int) = ((x.toNat : Int) - 1) + qQ * 1 from by omega, Int.add_mul_emod_self_left]
    rw [e]
    refine (nq_self _ (smL_length _)).2 ?_
    rw [leN_smL]
    have := (x - 1).toNat_lt
    unfold qQ
    omega
theorem long_eq (l m : List UInt8) (hl : l.length = 64) : (l ++ m).take 64 = l := by
  rw [List.take_append_of_le_length (by omega), List.take_of_length_le (by omega)]

section
variable {P : Program} {ops : Array Oper} {S : World → Prop}
theorem yi_val {o : Oper} {a : Act} (v : Value) (hw : Region.wanted o (yielded ops a.tmps) = true) (h : ∀ w, S w → (execOp a.eval o).run P w = .ok (.value v) w) : YieldsIf P ops S o v a := Or.inl ⟨hw, h⟩
theorem yi_move {o : Oper} {a : Act} (x : Operand) (v : Value) (hw : Region.wanted o (yielded ops a.tmps) = true) (ho : o.op = .move x) (hx : a.eval x = v) : YieldsIf P ops S o v a :=
  yi_val v hw (fun w _ => by unfold execOp; simp only [ho, hx, Sem.run_pure])
theorem yi_assign {o : Oper} {a : Act} (x : Operand) (v : Value) (hw : Region.wanted o (yielded ops a.tmps) = true) (ho : o.op = .assign x) (hx : a.eval x = v) : YieldsIf P ops S o v a :=
  yi_val v hw (fun w _ => by unfold execOp; simp only [ho, hx, Sem.run_pure])
theorem yi_pick {o : Oper} {a : Act} (c x y : Operand) (b : Bool) (v : Value) (hw : Region.wanted o (yielded ops a.tmps) = true) (ho : o.op = .pick c x y) (hc : a.eval c = .bool b) (hx : (if b then a.eval x else a.eval y) = v) : YieldsIf P ops S o v a :=
  yi_val v hw (fun w _ => by
    unfold execOp
    cases b <;> simp only [ho, hc, Bool.false_eq_true, if_false, if_true] at hx ⊢ <;> simp [asBool, hx])
theorem yi_eql {o : Oper} {a : Act} (ty rt e : TypeId) (x y : Operand) (n : Nat) (i : TypeInfo) (xs ys : List UInt8) (r : Bool) (hw : Region.wanted o (yielded ops a.tmps) = true) (ho : o.op = .binOp .eql ty x y rt) (hb : decide (xs = ys) = r)
    (hu : P.underlying ty = some (.array n e)) (he : P.underlying e = some (.int .u8)) (hi : P.info? e = some i) (hc : P.cellsOf e = 1) (hg : P.eqGuardType P.depth ty = false)
    (hx : a.eval x = .agg (xs.map bval).toArray) (hy : a.eval y = .agg (ys.map bval).toArray) (lx : xs.length = n) (ly : ys.length = n) : YieldsIf P ops S o (.bool r) a :=
  yi_val _ hw (fun w _ => by
    have h1 := run_equal_bytes hu he hi hc xs ys lx ly w
    rw [hb] at h1
    unfold execOp
    simp [ho, hx, hy, eqGuard, hg, binOp, h1])
end

end Go.Proofs.YtoebokeehhfboaaDoor
