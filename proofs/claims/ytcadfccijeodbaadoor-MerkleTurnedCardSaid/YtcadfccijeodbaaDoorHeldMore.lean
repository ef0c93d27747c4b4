/- Further operations that may be taken first in a drawn region in which calls and new memory stand in a chain: lengths, texts of bytes, comparisons, not. Nothing here speaks of a program. Each theorem names its own conditions. -/
import Derived.Test.YtcadfccijeodbaaDoorHeldKit
namespace Go.Proofs.YtcadfccijeodbaaDoor
open Go.RowKit
set_option linter.unusedVariables false
set_option linter.unusedSimpArgs false

section
variable {P : Program} {ops : Array Oper} {S : World → Prop}
theorem yi_len {o : Oper} {a : Act} (x : Operand) (t e : TypeId) (ad : Option Addr) (n c : Nat) (ht : P.underlying t = some (.slice e)) (hw : Region.wanted o (yielded ops a.tmps) = true) (ho : o.op = .call { callee := .builtin .len, args := #[x], argTypes := #[t] }) (hx : a.eval x = .slice ad n c) : YieldsIf P ops S o (.int .i64 (n : Int)) a :=
  yi_val _ hw (fun w _ => by
    unfold execOp
    simp [ho, resolve, invoke, builtin, hx, Builtin.len_, run_underlying ht, goInt, Result.andThen])
theorem yi_not {o : Oper} {a : Act} (ty : TypeId) (x : Operand) (b : Bool) (hw : Region.wanted o (yielded ops a.tmps) = true) (ho : o.op = .unOp .not ty x) (hx : a.eval x = .bool b) : YieldsIf P ops S o (.bool !b) a :=
  yi_val _ hw (fun w _ => by
    unfold execOp
    simp [ho, hx, Op.unary, Result.andThen])
theorem yi_eqb {o : Oper} {a : Act} (ty rt : TypeId) (x y : Operand) (b c r : Bool) (hr : (b == c) = r) (hu : P.underlying ty = some .bool) (hw : Region.wanted o (yielded ops a.tmps) = true) (ho : o.op = .binOp .eql ty x y rt) (hx : a.eval x = .bool b) (hy : a.eval y = .bool c) : YieldsIf P ops S o (.bool r) a :=
  yi_val _ hw (fun w _ => by
    unfold execOp
    simp only [ho, hx, hy]
    simp [eqGuard, binOp, run_equal_bools hu, hr])
/-- A text of bytes, whose run is known. -/
theorem yi_conv {o : Oper} {a : Act} (s t : TypeId) (x : Operand) (vx v : Value) (hw : Region.wanted o (yielded ops a.tmps) = true) (ho : o.op = .convert s t x) (hx : a.eval x = vx) (h : ∀ w, S w → (convert s t vx).run P w = .ok v w) : YieldsIf P ops S o v a :=
  yi_val v hw (fun w hS => by
    unfold execOp
    simp only [ho, hx, Sem.run_bind, h w hS, Result.andThen_ok, Sem.run_pure])
theorem yi_eqi {o : Oper} {a : Act} (k : IntKind) (ty rt : TypeId) (x y : Operand) (b c : Int) (r : Bool) (hr : decide (b = c) = r) (hw : Region.wanted o (yielded ops a.tmps) = true) (ho : o.op = .binOp .eql ty x y rt) (hx : a.eval x = .int k b) (hy : a.eval y = .int k c) : YieldsIf P ops S o (.bool r) a :=
  yi_val _ hw (fun w _ => by
    subst hr
    unfold execOp
    simp only [ho, hx, hy]
    simp [eqGuard, binOp, Op.intCmp, Result.andThen]
    try rw [Bool.eq_iff_iff]; simp)
theorem yi_eqt {o : Oper} {a : Act} (ty rt : TypeId) (x y : Operand) (b c : List UInt8) (r : Bool) (hr : decide (b = c) = r) (hw : Region.wanted o (yielded ops a.tmps) = true) (ho : o.op = .binOp .eql ty x y rt) (hx : a.eval x = .string ⟨b.toArray⟩) (hy : a.eval y = .string ⟨c.toArray⟩) : YieldsIf P ops S o (.bool r) a :=
  yi_val _ hw (fun w _ => by
    subst hr
    unfold execOp
    simp only [ho, hx, hy]
    simp [eqGuard, binOp, Op.stringOp, Result.andThen]
    try rw [Bool.eq_iff_iff]; simp)
theorem yi_and {o : Oper} {a : Act} (k : IntKind) (ty rt : TypeId) (x y : Operand) (m n r : Int) (hr : bits .and k m n = r) (hw : Region.wanted o (yielded ops a.tmps) = true) (ho : o.op = .binOp .and ty x y rt) (hx : a.eval x = .int k m) (hy : a.eval y = .int k n) : YieldsIf P ops S o (.int k r) a :=
  yi_val _ hw (fun w _ => by rw [← hr]; unfold execOp bits; simp [ho, hx, hy, eqGuard, binOp, Op.intBits])
theorem yi_iconv {o : Oper} {a : Act} (src dst : TypeId) (x : Operand) (k k' : IntKind) (n r : Int) (hs : (P.underlying src).isSome = true) (hd : P.underlying dst = some (.int k')) (hr : k'.wrap n = r) (hw : Region.wanted o (yielded ops a.tmps) = true) (ho : o.op = .convert src dst x) (hx : a.eval x = .int k n) : YieldsIf P ops S o (.int k' r) a :=
  yi_val _ hw (fun w _ => by
    obtain ⟨u, hu⟩ := Option.isSome_iff_exists.1 hs
    have h : (convert src dst (.int k n)).run P w = .ok (.int k' r) w := by
      simp [convert, run_underlying hu, run_underlying hd, Conv.intToInt, hr]
    unfold execOp
    simp only [ho, hx, Sem.run_bind, h, Result.andThen_ok, Sem.run_pure])
theorem wp_alloc_d {o : Oper} {a : Act} {w : World} {K : Act → World → Prop} {Q : Exit → Act → World → Prop} (d : Option Nat) (ty : TypeId) (zs : List Value) (hd : o.dst = d) (ho : o.op = .alloc ty) (hz : ∀ w, (zeroValue ty).run P w = .ok (.agg zs.toArray) w)
    (h : K (a.put d (.pointer (some ⟨w.heap.size, 0, none⟩))) (w.alloc (.cells zs.toArray ty))) : o.wp P a w K Q := by
  subst hd
  unfold Oper.wp
  rw [run_alloc_zero ho hz]
  exact h
theorem wp_conv_d {o : Oper} {a : Act} {w : World} {K : Act → World → Prop} {Q : Exit → Act → World → Prop} (d : Option Nat) (s t : TypeId) (x : Operand) (vx v : Value) (w' : World) (hd : o.dst = d) (ho : o.op = .convert s t x) (hx : a.eval x = vx) (hr : (convert s t vx).run P w = .ok v w')
    (h : K (a.put d v) w') : o.wp P a w K Q := by
  subst hd
  unfold Oper.wp execOp
  simp only [ho, hx, Sem.run_bind, hr, Result.andThen_ok, Sem.run_pure]
  exact h
theorem yi_neqB {o : Oper} {a : Act} (ty rt e : TypeId) (x y : Operand) (n : Nat) (i : TypeInfo) (xs ys : List UInt8) (r : Bool) (hw : Region.wanted o (yielded ops a.tmps) = true) (ho : o.op = .binOp .neq ty x y rt) (hb : decide (xs = ys) = !r)
    (hu : P.underlying ty = some (.array n e)) (he : P.underlying e = some (.int .u8)) (hi : P.info? e = some i) (hc : P.cellsOf e = 1) (hg : P.eqGuardType P.depth ty = false)
    (hx : a.eval x = .agg (xs.map bval).toArray) (hy : a.eval y = .agg (ys.map bval).toArray) (lx : xs.length = n) (ly : ys.length = n) : YieldsIf P ops S o (.bool r) a :=
  yi_val _ hw (fun w _ => by
    have h1 := run_equal_bytes hu he hi hc xs ys lx ly w
    rw [hb] at h1
    unfold execOp
    simp [ho, hx, hy, eqGuard, hg, binOp, h1])
theorem yi_build {o : Oper} {a : Act} (ty : TypeId) (parts : Array (Nat × Operand)) (vs : Array (Nat × Value)) (v : Value) (hr : ∀ w, (Instr.build ty vs).run P w = .ok v w) (hw : Region.wanted o (yielded ops a.tmps) = true) (ho : o.op = .build ty parts) (hp : parts.map (fun (i, x) => (i, a.eval x)) = vs) : YieldsIf P ops S o v a :=
  yi_val _ hw (fun w _ => by
    subst hp
    unfold execOp
    simp only [ho, Sem.run_bind, hr, Result.andThen_ok, Sem.run_pure])
theorem wp_make_d {o : Oper} {a : Act} {w : World} {K : Act → World → Prop} {Q : Exit → Act → World → Prop} (d : Option Nat) (t : TypeId) (x y : Operand) (vx vy v : Value) (w' : World) (hd : o.dst = d) (ho : o.op = .makeSlice t x y) (hx : a.eval x = vx) (hy : a.eval y = vy) (hr : (Instr.makeSlice t vx vy).run P w = .ok v w')
    (h : K (a.put d v) w') : o.wp P a w K Q := by
  subst hd
  unfold Oper.wp execOp
  simp only [ho, hx, hy, Sem.run_bind, hr, Result.andThen_ok, Sem.run_pure]
  exact h
theorem yi_add {o : Oper} {a : Act} (k : IntKind) (ty rt : TypeId) (x y : Operand) (m n r : Int) (hr : k.wrap (m + n) = r) (hw : Region.wanted o (yielded ops a.tmps) = true) (ho : o.op = .binOp .add ty x y rt) (hx : a.eval x = .int k m) (hy : a.eval y = .int k n) : YieldsIf P ops S o (.int k r) a :=
  yi_val _ hw (fun w _ => by unfold execOp; simp [ho, hx, hy, eqGuard, binOp, Op.intArith, hr])
theorem yi_sub {o : Oper} {a : Act} (k : IntKind) (ty rt : TypeId) (x y : Operand) (m n r : Int) (hr : k.wrap (m - n) = r) (hw : Region.wanted o (yielded ops a.tmps) = true) (ho : o.op = .binOp .sub ty x y rt) (hx : a.eval x = .int k m) (hy : a.eval y = .int k n) : YieldsIf P ops S o (.int k r) a :=
  yi_val _ hw (fun w _ => by unfold execOp; simp [ho, hx, hy, eqGuard, binOp, Op.intArith, hr])
theorem yi_mul {o : Oper} {a : Act} (k : IntKind) (ty rt : TypeId) (x y : Operand) (m n r : Int) (hr : k.wrap (m * n) = r) (hw : Region.wanted o (yielded ops a.tmps) = true) (ho : o.op = .binOp .mul ty x y rt) (hx : a.eval x = .int k m) (hy : a.eval y = .int k n) : YieldsIf P ops S o (.int k r) a :=
  yi_val _ hw (fun w _ => by unfold execOp; simp [ho, hx, hy, eqGuard, binOp, Op.intArith, hr])
theorem yi_net {o : Oper} {a : Act} (ty rt : TypeId) (x y : Operand) (b c : List UInt8) (r : Bool) (hr : decide (b = c) = !r) (hw : Region.wanted o (yielded ops a.tmps) = true) (ho : o.op = .binOp .neq ty x y rt) (hx : a.eval x = .string ⟨b.toArray⟩) (hy : a.eval y = .string ⟨c.toArray⟩) : YieldsIf P ops S o (.bool r) a :=
  yi_val _ hw (fun w _ => by
    have hr2 : r = !decide (b = c) := by rw [hr, Bool.not_not]
    subst hr2
    unfold execOp
    simp only [ho, hx, hy]
    simp [eqGuard, binOp, Op.stringOp, Result.andThen]
    try rw [Bool.eq_iff_iff]; simp)
end

end Go.Proofs.YtcadfccijeodbaaDoor
