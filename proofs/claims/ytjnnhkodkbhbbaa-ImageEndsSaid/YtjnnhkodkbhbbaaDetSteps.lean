/- Steps and ends of a drawn region's one walk; equality of arrays of bytes. Nothing here speaks of a program. Each theorem names its own conditions. -/
import Derived.Test.YtjnnhkodkbhbbaaDetKit
namespace Go.Proofs.Ytjnnhkodkbhbbaa
open Go.RowKit
set_option linter.unusedVariables false

section
variable {P : Program} {ops : Array Oper} {Q : Exit → Act → World → Prop} {md : Region.Mode} {t : Nat} {C : World → Prop} {D : Act → Prop}

theorem det_nil {a : Act} (h : D a) : wpDet P ops C D [] a := h
/-- A value that is had in every world of the class. -/
theorem det_val {o : Oper} {rest : List Oper} {a : Act} (v : Value) (hw : Region.wanted o (yielded ops a.tmps) = true) (h : ∀ w, C w → (execOp a.eval o).run P w = .ok (.value v) w)
    (next : wpDet P ops C D rest (a.put o.dst v)) : wpDet P ops C D (o :: rest) a :=
  ⟨fun _ => ⟨v, fun w hw' => by unfold Oper.quietAt; rw [h w hw']; exact ⟨rfl, rfl⟩, next⟩, fun h' => by rw [hw] at h'; cases h'⟩
/-- An operation that is guarded off. -/
theorem det_skip {o : Oper} {rest : List Oper} {a : Act} (hw : Region.wanted o (yielded ops a.tmps) = false) (next : wpDet P ops C D rest (a.put o.dst undef)) : wpDet P ops C D (o :: rest) a :=
  ⟨fun h' => (by rw [hw] at h'; cases h'), fun _ => next⟩
theorem det_move {o : Oper} {rest : List Oper} {a : Act} (x : Operand) (v : Value) (hw : Region.wanted o (yielded ops a.tmps) = true) (ho : o.op = .move x) (hx : a.eval x = v)
    (next : wpDet P ops C D rest (a.put o.dst v)) : wpDet P ops C D (o :: rest) a :=
  det_val v hw (fun w _ => by unfold execOp; simp only [ho, hx, Sem.run_pure]) next
theorem det_assign {o : Oper} {rest : List Oper} {a : Act} (x : Operand) (v : Value) (hw : Region.wanted o (yielded ops a.tmps) = true) (ho : o.op = .assign x) (hx : a.eval x = v)
    (next : wpDet P ops C D rest (a.put o.dst v)) : wpDet P ops C D (o :: rest) a :=
  det_val v hw (fun w _ => by unfold execOp; simp only [ho, hx, Sem.run_pure]) next
theorem det_pick {o : Oper} {rest : List Oper} {a : Act} (c x y : Operand) (b : Bool) (v : Value) (hw : Region.wanted o (yielded ops a.tmps) = true) (ho : o.op = .pick c x y) (hc : a.eval c = .bool b) (hx : (if b then a.eval x else a.eval y) = v)
    (next : wpDet P ops C D rest (a.put o.dst v)) : wpDet P ops C D (o :: rest) a :=
  det_val v hw (fun w _ => by
    unfold execOp
    cases b <;> simp only [ho, hc, Bool.false_eq_true, if_false, if_true] at hx ⊢ <;> simp [asBool, hx]) next
/-- The load of a whole array. -/
theorem det_load {o : Oper} {rest : List Oper} {a : Act} (ty : TypeId) (x : Operand) (c : Nat) (cs : List Value) (d : TypeDesc) (hw : Region.wanted o (yielded ops a.tmps) = true) (ho : o.op = .load ty x)
    (hx : a.eval x = .pointer (some ⟨c, 0, none⟩)) (hC : ∀ w, C w → w.rangeAt c 0 cs) (hu : P.underlying ty = some d) (hd : d.isRow = true) (hi : (P.info? ty).map (·.size) = some cs.length)
    (next : wpDet P ops C D rest (a.put o.dst (.agg cs.toArray))) : wpDet P ops C D (o :: rest) a := by
  rcases yieldsIf_load_mid (S := C) hw ty x ho c 0 hx cs d hC hu hd hi with ⟨_, h⟩ | ⟨h, _⟩
  · exact det_val _ hw h next
  · rw [hw] at h; cases h
/-- A call that leaves old memory alone. -/
theorem det_call {o : Oper} {rest : List Oper} {a : Act} (f : FuncId) (bs : Array Operand) (ts : Array TypeId) (args : List Value) (v : Value) (hw : Region.wanted o (yielded ops a.tmps) = true)
    (ho : o.op = .call { callee := .value (.func f), args := bs, argTypes := ts }) (hen : ∀ args w, (callFunc f args).run P w = .ok (.enter f args) w) (ha : bs.toList.map a.eval = args)
    (hc : ∀ w, C w → Calls P f args.toArray w fun e w' => e = .returned v ∧ Below w.heap.size w w') (next : wpDet P ops C D rest (a.put o.dst v)) : wpDet P ops C D (o :: rest) a :=
  ⟨fun _ => ⟨v, fun w hw' => by
    have hb : bs.map a.eval = args.toArray := by
      apply Array.ext'
      simpa using ha
    unfold Oper.quietAt execOp
    simp only [ho, resolve, hb, Sem.run_bind]
    simp only [Act.eval, Deferred.ofValue, Sem.run_pure, Result.andThen_ok, invoke, Array.append_empty, Array.empty_append, hen]
    exact ⟨rfl, hc w hw'⟩, next⟩, fun h' => by rw [hw] at h'; cases h'⟩
/-- The load of one cell. -/
theorem det_cell {o : Oper} {rest : List Oper} {a : Act} (ty : TypeId) (x : Operand) (c k : Nat) (v : Value) (hw : Region.wanted o (yielded ops a.tmps) = true) (ho : o.op = .load ty x)
    (hx : a.eval x = .pointer (some ⟨c, k, none⟩)) (hC : ∀ w, C w → w.cell? ⟨c, k, none⟩ = some v) (ha : ∀ w, (isAgg ty).run P w = .ok false w)
    (next : wpDet P ops C D rest (a.put o.dst v)) : wpDet P ops C D (o :: rest) a :=
  det_val v hw (fun w hw' => by
    have hc := hC w hw'
    unfold execOp
    simp [ho, hx, Instr.loadAt, Instr.sureAddr, loadVar, ha, hc]) next
theorem det_mul {o : Oper} {rest : List Oper} {a : Act} (ty rt : TypeId) (x y : Operand) (k : IntKind) (m n r : Int) (hw : Region.wanted o (yielded ops a.tmps) = true) (ho : o.op = .binOp .mul ty x y rt) (hx : a.eval x = .int k m) (hy : a.eval y = .int k n) (hr : k.wrap (m * n) = r)
    (next : wpDet P ops C D rest (a.put o.dst (.int k r))) : wpDet P ops C D (o :: rest) a :=
  det_val _ hw (fun w _ => by unfold execOp; simp [ho, hx, hy, eqGuard, binOp, Op.intArith, hr]) next
theorem det_add {o : Oper} {rest : List Oper} {a : Act} (ty rt : TypeId) (x y : Operand) (k : IntKind) (m n r : Int) (hw : Region.wanted o (yielded ops a.tmps) = true) (ho : o.op = .binOp .add ty x y rt) (hx : a.eval x = .int k m) (hy : a.eval y = .int k n) (hr : k.wrap (m + n) = r)
    (next : wpDet P ops C D rest (a.put o.dst (.int k r))) : wpDet P ops C D (o :: rest) a :=
  det_val _ hw (fun w _ => by unfold execOp; simp [ho, hx, hy, eqGuard, binOp, Op.intArith, hr]) next
theorem det_sub {o : Oper} {rest : List Oper} {a : Act} (ty rt : TypeId) (x y : Operand) (k : IntKind) (m n r : Int) (hw : Region.wanted o (yielded ops a.tmps) = true) (ho : o.op = .binOp .sub ty x y rt) (hx : a.eval x = .int k m) (hy : a.eval y = .int k n) (hr : k.wrap (m - n) = r)
    (next : wpDet P ops C D rest (a.put o.dst (.int k r))) : wpDet P ops C D (o :: rest) a :=
  det_val _ hw (fun w _ => by unfold execOp; simp [ho, hx, hy, eqGuard, binOp, Op.intArith, hr]) next
theorem det_and {o : Oper} {rest : List Oper} {a : Act} (ty rt : TypeId) (x y : Operand) (k : IntKind) (m n r : Int) (hw : Region.wanted o (yielded ops a.tmps) = true) (ho : o.op = .binOp .and ty x y rt) (hx : a.eval x = .int k m) (hy : a.eval y = .int k n) (hr : bits .and k m n = r)
    (next : wpDet P ops C D rest (a.put o.dst (.int k r))) : wpDet P ops C D (o :: rest) a :=
  det_val _ hw (fun w _ => by rw [← hr]; unfold execOp bits; simp [ho, hx, hy, eqGuard, binOp, Op.intBits]) next
theorem det_or {o : Oper} {rest : List Oper} {a : Act} (ty rt : TypeId) (x y : Operand) (k : IntKind) (m n r : Int) (hw : Region.wanted o (yielded ops a.tmps) = true) (ho : o.op = .binOp .or ty x y rt) (hx : a.eval x = .int k m) (hy : a.eval y = .int k n) (hr : bits .or k m n = r)
    (next : wpDet P ops C D rest (a.put o.dst (.int k r))) : wpDet P ops C D (o :: rest) a :=
  det_val _ hw (fun w _ => by rw [← hr]; unfold execOp bits; simp [ho, hx, hy, eqGuard, binOp, Op.intBits]) next
theorem det_xor {o : Oper} {rest : List Oper} {a : Act} (ty rt : TypeId) (x y : Operand) (k : IntKind) (m n r : Int) (hw : Region.wanted o (yielded ops a.tmps) = true) (ho : o.op = .binOp .xor ty x y rt) (hx : a.eval x = .int k m) (hy : a.eval y = .int k n) (hr : bits .xor k m n = r)
    (next : wpDet P ops C D rest (a.put o.dst (.int k r))) : wpDet P ops C D (o :: rest) a :=
  det_val _ hw (fun w _ => by rw [← hr]; unfold execOp bits; simp [ho, hx, hy, eqGuard, binOp, Op.intBits]) next
/-- The address of an array's element, of a struct's field. -/
theorem det_index {o : Oper} {rest : List Oper} {a : Act} (ty e : TypeId) (x y : Operand) (c n : Nat) (j : Nat) (hw : Region.wanted o (yielded ops a.tmps) = true) (ho : o.op = .indexAddr ty x y) (hx : a.eval x = .pointer (some ⟨c, 0, none⟩)) (hy : a.eval y = .int .i64 (j : Int))
    (hu : P.underlying ty = some (.array n e)) (hj : j < n) (hs : ∀ w, (sizeOf e).run P w = .ok 1 w)
    (next : wpDet P ops C D rest (a.put o.dst (.pointer (some ⟨c, j, none⟩)))) : wpDet P ops C D (o :: rest) a :=
  det_val _ hw (fun w _ => by
    have h1 : (0 : Int) ≤ (j : Int) ∧ (j : Int) < (n : Int) := by omega
    unfold execOp
    simp [ho, hx, hy, Instr.indexAt, asIntOf, run_underlying hu, Instr.sureAddr, h1, hs, Addr.add_mid, hj]) next
theorem det_field {o : Oper} {rest : List Oper} {a : Act} (ty : TypeId) (x : Operand) (c f j : Nat) (hw : Region.wanted o (yielded ops a.tmps) = true) (ho : o.op = .fieldAddr ty x f) (hx : a.eval x = .pointer (some ⟨c, 0, none⟩))
    (hr : ∀ w, (Instr.fieldAt ty (.pointer (some ⟨c, 0, none⟩)) f).run P w = .ok (.pointer (some ⟨c, j, none⟩)) w)
    (next : wpDet P ops C D rest (a.put o.dst (.pointer (some ⟨c, j, none⟩)))) : wpDet P ops C D (o :: rest) a :=
  det_val _ hw (fun w _ => by unfold execOp; simp only [ho, hx, Sem.run_bind, hr, Result.andThen_ok, Sem.run_pure]) next

/-! ### Arrays of bytes, held against each other -/
theorem bval_eq {x y : UInt8} : bval x = bval y ↔ x = y := by
  unfold bval
  constructor
  · intro h
    injection h with _ h
    exact UInt8.toNat_inj.1 (by omega)
  · rintro rfl
    rfl
theorem run_eqItems_bytes {e : TypeId} {i : TypeInfo} (he : P.underlying e = some (.int .u8)) (hi : P.info? e = some i) (d : Nat) (xs ys : List UInt8) (w : World) : ∀ is : List Nat, (∀ j ∈ is, j < xs.length ∧ j < ys.length) →
    (Op.eqItems (d + 1) e 1 (xs.map bval).toArray (ys.map bval).toArray is).run P w = .ok (is.all fun j => decide (xs.getD j 0 = ys.getD j 0)) w
  | [], _ => by simp [Op.eqItems]
  | j :: is, h => by
    obtain ⟨g1, g2⟩ := h j (List.mem_cons_self ..)
    have ih := run_eqItems_bytes he hi d xs ys w is (fun k hk => h k (List.mem_cons_of_mem _ hk))
    have p1 : ∀ zs : List UInt8, j < zs.length → (part e (zs.map bval).toArray (j * 1)).run P w = .ok (bval (zs.getD j 0)) w := by
      intro zs hz
      simp [part, isAgg, run_underlying he, hz, List.getD]
    simp only [Op.eqItems, Sem.run_bind, p1 xs g1, p1 ys g2, Result.andThen_ok, Op.equalIn, run_underlying he]
    have hbv : ∀ z : UInt8, bval z = .int .u8 (z.toNat : Int) := fun _ => rfl
    simp only [hbv]
    by_cases hq : xs.getD j 0 = ys.getD j 0
    · simp only [hq, if_true, beq_self_eq_true, Sem.run_pure, Result.andThen_ok, Bool.not_true, Bool.false_eq_true, if_false, ih, List.all_cons, decide_true, Bool.true_and]
    · have hb : (((xs.getD j 0).toNat : Int) == ((ys.getD j 0).toNat : Int)) = false := by
        rw [beq_eq_false_iff_ne]
        intro h'
        exact hq (UInt8.toNat_inj.1 (by omega))
      simp only [if_true, hb, Sem.run_pure, Result.andThen_ok, Bool.not_false, List.all_cons, hq, decide_false, Bool.false_and]

theorem run_equal_bytes {ty e : TypeId} {n : Nat} {i : TypeInfo} (hu : P.underlying ty = some (.array n e)) (he : P.underlying e = some (.int .u8)) (hi : P.info? e = some i) (hc : P.cellsOf e = 1) (xs ys : List UInt8) (hx : xs.length = n) (hy : ys.length = n) (w : World) :
    (Op.equal ty (.agg (xs.map bval).toArray) (.agg (ys.map bval).toArray)).run P w = .ok (decide (xs = ys)) w := by
  have h1 := run_equalIn_array (P := P) w 9999 (xs.map bval).toArray (ys.map bval).toArray hu hi
  rw [hc, run_eqItems_bytes he hi 9998 xs ys w (List.range n) (fun j hj => by have := List.mem_range.1 hj; omega)] at h1
  refine Eq.trans h1 ?_
  congr 1
  rw [Bool.eq_iff_iff, List.all_eq_true, decide_eq_true_iff]
  constructor
  · intro h
    apply List.ext_getElem (by omega)
    intro k hk1 hk2
    have := h k (List.mem_range.2 (by omega))
    simpa [List.getD, hk1, hk2] using this
  · rintro rfl j _
    simp

/-- Two arrays of bytes, held against each other. -/
theorem det_eql {o : Oper} {rest : List Oper} {a : Act} (b : BinOp) (ty rt e : TypeId) (x y : Operand) (n : Nat) (i : TypeInfo) (xs ys : List UInt8) (r : Bool) (hw : Region.wanted o (yielded ops a.tmps) = true) (ho : o.op = .binOp b ty x y rt)
    (hb : b = .eql ∧ decide (xs = ys) = r ∨ b = .neq ∧ decide (xs = ys) = !r)
    (hu : P.underlying ty = some (.array n e)) (he : P.underlying e = some (.int .u8)) (hi : P.info? e = some i) (hc : P.cellsOf e = 1) (hg : P.eqGuardType P.depth ty = false)
    (hx : a.eval x = .agg (xs.map bval).toArray) (hy : a.eval y = .agg (ys.map bval).toArray) (lx : xs.length = n) (ly : ys.length = n)
    (next : wpDet P ops C D rest (a.put o.dst (.bool r))) : wpDet P ops C D (o :: rest) a :=
  det_val _ hw (fun w _ => by
    have h1 := run_equal_bytes hu he hi hc xs ys lx ly w
    rcases hb with ⟨rfl, hb⟩ | ⟨rfl, hb⟩
    · rw [hb] at h1
      unfold execOp
      simp [ho, hx, hy, eqGuard, hg, binOp, h1]
    · rw [hb] at h1
      unfold execOp
      simp [ho, hx, hy, eqGuard, hg, binOp, h1]) next

/-! ### The ends -/
/-- All have come up. -/
theorem end_none {listed : Array Bool} {a : Act} {w : World} (hr : Region.ready md ops listed = []) (h : ∀ w', Ext w w' → Q .normal a w') : wpAnyB P md ops Q t 0 listed a w.drew :=
  fun w' hw' => ⟨hr, h w' ((Ext.drew w).trans hw')⟩
/-- One store is owed. -/
theorem end_store {k : Nat} {o : Oper} {listed : Array Bool} {a : Act} {w : World} (hk : ops[k]? = some o) (hr : Region.ready md ops listed = [k]) (hr2 : Region.ready md ops (listed.setIfInBounds k true) = []) (hd : doneB t listed = true) (hg : o.guard = none)
    (h : ∀ w', Ext w w' → o.wp P a w' (fun a' w'' => Q .normal a' w'') Q) : wpAnyB P md ops Q t 1 listed a w.drew := by
  refine ⟨fun _ w' hw' => ⟨fun h0 => (by rw [hr] at h0; cases h0), fun i hi => ?_⟩, fun h0 => (by rw [hd] at h0; cases h0)⟩
  rw [hr] at hi
  obtain rfl : i = k := by simpa using hi
  unfold wpOp
  simp only [hk, Region.wanted, hg, if_true]
  exact Or.inl (Oper.wp_mono (fun a' w'' h' => ⟨hr2, h'⟩) (h w' ((Ext.drew w).trans hw')))
/-- A variable is to be made, and one store into it. -/
theorem end_alloc {k : Nat} {o1 o2 : Oper} {listed : Array Bool} {a : Act} {w : World} (hk : ops[k]? = some o1) (hk2 : ops[k + 1]? = some o2) (hr : Region.ready md ops listed = [k]) (hr2 : Region.ready md ops (listed.setIfInBounds k true) = [k + 1])
    (hr3 : Region.ready md ops ((listed.setIfInBounds k true).setIfInBounds (k + 1) true) = []) (hd : doneB t listed = false) (hd2 : doneB t (listed.setIfInBounds k true) = true) (hg : o1.guard = none) (hg2 : o2.guard = none)
    (h : ∀ w', Ext w w' → o1.wp P a w' (fun a' w'' => Ext w' w'' ∧ ∀ w3, Ext w'' w3 → o2.wp P a' w3 (fun a'' w4 => Q .normal a'' w4) Q) Q) : wpAnyB P md ops Q t 2 listed a w.drew := by
  refine ⟨fun h0 => (by rw [hd] at h0; cases h0), fun _ w' hw' => ⟨by rw [hr]; simp, fun i hi => ?_⟩⟩
  rw [hr] at hi
  obtain rfl : i = k := by simpa using hi
  unfold wpOp
  simp only [hk, Region.wanted, hg, if_true]
  refine Or.inl (Oper.wp_mono (fun a' w'' h' => ⟨h'.1, ?_⟩) (h w' ((Ext.drew w).trans hw')))
  refine ⟨fun _ w3 hw3 => ⟨fun h0 => (by rw [hr2] at h0; cases h0), fun j hj => ?_⟩, fun h0 => (by rw [hd2] at h0; cases h0)⟩
  rw [hr2] at hj
  obtain rfl : j = i + 1 := by simpa using hj
  unfold wpOp
  simp only [hk2, Region.wanted, hg2, if_true]
  exact Or.inl (Oper.wp_mono (fun a'' w4 h4 => ⟨hr3, h4⟩) (h'.2 w3 hw3))

/-- A whole array is stored into what stands: the region's end. -/
theorem end_set {k : Nat} {o : Oper} {listed : Array Bool} {a : Act} {w : World} (ty tb : TypeId) (x y : Operand) (c : Nat) (vs cs : List Value) (hk : ops[k]? = some o) (hr : Region.ready md ops listed = [k]) (hr2 : Region.ready md ops (listed.setIfInBounds k true) = []) (hd : doneB t listed = true) (hg : o.guard = none)
    (ho : o.op = .store ty x y) (hx : a.eval x = .pointer (some ⟨c, 0, none⟩)) (hy : a.eval y = .agg vs.toArray) (hb : Blk w c cs tb) (hl : vs.length = cs.length) (hi : (P.info? ty).map (·.size) = some vs.length) (h1 : ∀ v ∈ vs, v.oneCell' = true)
    (h : ∀ w', Blk w' c vs tb → w.grownBy w' (some c) → Q .normal (a.put o.dst undef) w') : wpAnyB P md ops Q t 1 listed a w.drew :=
  end_store hk hr hr2 hd hg fun w' hw' => wp_store_blk ty x y ho c vs hx hy tb cs (hb.same (hw'.block _ hb.lt)) hl hi h1 fun w4 hb4 hg4 => h w4 hb4 (grownBy_trans (grown_of_below hw' _) hg4)
/-- A variable is made, and a whole array stored into it: the region's end. -/
theorem end_var {k : Nat} {o1 o2 : Oper} {listed : Array Bool} {a : Act} {w : World} (ty : TypeId) (d : Nat) (y : Operand) (zs vs : List Value) (hk : ops[k]? = some o1) (hk2 : ops[k + 1]? = some o2) (hr : Region.ready md ops listed = [k]) (hr2 : Region.ready md ops (listed.setIfInBounds k true) = [k + 1])
    (hr3 : Region.ready md ops ((listed.setIfInBounds k true).setIfInBounds (k + 1) true) = []) (hd : doneB t listed = false) (hd2 : doneB t (listed.setIfInBounds k true) = true) (hg : o1.guard = none) (hg2 : o2.guard = none)
    (ho : o1.op = .alloc ty) (hdst : o1.dst = some d) (hz : ∀ w, (zeroValue ty).run P w = .ok (.agg zs.toArray) w)
    (ho2 : o2.op = .store ty (.tmp d) y) (hd' : d < a.tmps.size) (hy : ∀ p, (a.put (some d) (.pointer (some ⟨p, 0, none⟩))).eval y = .agg vs.toArray) (hl : vs.length = zs.length) (hi : (P.info? ty).map (·.size) = some vs.length) (h1 : ∀ v ∈ vs, v.oneCell' = true)
    (h : ∀ p w', w.heap.size ≤ p → Blk w' p vs ty → Ext w w' → Q .normal ((a.put (some d) (.pointer (some ⟨p, 0, none⟩))).put o2.dst undef) w') : wpAnyB P md ops Q t 2 listed a w.drew := by
  have hal : ∀ w, (execOp a.eval o1).run P w = .ok (.value (.pointer (some ⟨w.heap.size, 0, none⟩))) (w.alloc (.cells zs.toArray ty)) := fun w => by
    unfold execOp
    simp [ho, Instr.alloc, hz, newVar, newRow, Value.cells]
  refine end_alloc hk hk2 hr hr2 hr3 hd hd2 hg hg2 fun w' hw' => ?_
  unfold Oper.wp
  rw [hal w']
  simp only [Oper.upon, hdst]
  refine ⟨Ext.alloc _ _, fun w3 hw3 => ?_⟩
  have hb : Blk w3 w'.heap.size zs ty := (Blk.made w' zs ty).same (hw3.block _ (Blk.made w' zs ty).lt)
  refine wp_store_blk ty (.tmp d) y ho2 w'.heap.size vs ?_ (hy _) ty zs hb hl hi h1 fun w4 hb4 hg4 => h _ w4 hw'.size hb4 ?_
  · simp [Act.eval, Act.put, Array.getD, hd']
  · exact Below.grown (hw'.trans ((Ext.alloc w' _).trans hw3)) hg4 (hw'.trans ((Ext.alloc w' _).trans hw3)).size (fun r hr => by cases hr; exact hw'.size)
/-- The result that lies in a cell, an array or a struct of one-cell parts. -/
theorem result_row {w : World} {fn : Func} {p : Tmp} {ty : TypeId} (h : fn.results = #[.cell p ty]) (tmps : Array Value) (c : Nat) (tb : TypeId) (cs : List Value) (d : TypeDesc)
    (hp : tmps.getD p undef = .pointer (some ⟨c, 0, none⟩)) (hb : Blk w c cs tb) (hu : P.underlying ty = some d) (hd : d.isRow = true) (hi : (P.info? ty).map (·.size) = some cs.length) :
    (results fn tmps).run P w = .ok (.agg cs.toArray) w :=
  results_cell_row h tmps w c tb cs.toArray (0, 0) d hp hb hu (by cases d <;> simp_all [TypeDesc.isRow]) (by simpa using hi)
theorem ext_blk {w w' : World} {c : Nat} {cs : List Value} {tb : TypeId} (h : Blk w c cs tb) (hb : Ext w w') : Blk w' c cs tb := h.same (hb.block _ h.lt)
theorem ext_range {w w' : World} {c : Nat} {cs : List Value} {tb : TypeId} (h : Blk w c cs tb) (hb : Ext w w') : w'.rangeAt c 0 cs := (ext_blk h hb).range
theorem ext_grown {a b d : World} {c : Nat} (h : Ext a b) (hg : b.grownBy d (some c)) (hc : a.heap.size ≤ c) : Ext a d := Below.grown h hg h.size (fun k hk => by cases hk; exact hc)
end

end Go.Proofs.Ytjnnhkodkbhbbaa
