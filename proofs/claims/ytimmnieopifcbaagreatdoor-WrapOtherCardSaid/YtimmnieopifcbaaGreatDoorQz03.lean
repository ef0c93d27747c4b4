/- Texts that belong together, one behind the other. -/
import Derived.Test.YtimmnieopifcbaaGreatDoorQz02
namespace Go.Proofs.YtimmnieopifcbaaGreatDoor
set_option linter.unusedVariables false
set_option maxRecDepth 100000
set_option maxHeartbeats 32000000
set_option linter.unusedSimpArgs false
open Go.RowKit
section
section
variable {P : Program} {ops : Array Oper} {Q : Exit → Act → World → Prop} {md : Region.Mode} {t : Nat} {C : World → Prop} {D : Act → Prop}
theorem zdv {o : Oper} {a : Act} {ty : TypeId} {zs : List Value} (ho : o.op = .alloc ty) (hz : ∀ w, (zeroValue ty).run P w = .ok (.agg zs.toArray) w) (w : World) :
  (execOp a.eval o).run P w = .ok (.value (.pointer (some ⟨w.heap.size, 0, none⟩))) (w.alloc (.cells zs.toArray ty)) := by
 unfold execOp
 simp [ho, Instr.alloc, hz, newVar, newRow, Value.cells]
theorem two_stores {k : Nat} {o3 o4 : Oper} {listed : Array Bool} {a : Act} {w w' : World} (ty : TypeId) (d1 d2 p q : Nat) (y1 y2 : Operand) (zs vs1 vs2 : List Value) (hk3 : ops[k]? = some o3) (hk4 : ops[k + 1]? = some o4)
  (hr : Region.ready md ops listed = [k]) (hr2 : Region.ready md ops (listed.setIfInBounds k true) = [k + 1]) (hr3 : Region.ready md ops ((listed.setIfInBounds k true).setIfInBounds (k + 1) true) = [])
  (hg3 : o3.guard = none) (hg4 : o4.guard = none) (ho3 : o3.op = .store ty (.tmp d1) y1) (ho4 : o4.op = .store ty (.tmp d2) y2) (hn3 : o3.dst = none) (hn4 : o4.dst = none)
  (hx1 : a.eval (.tmp d1) = .pointer (some ⟨p, 0, none⟩)) (hx2 : a.eval (.tmp d2) = .pointer (some ⟨q, 0, none⟩)) (hy1 : a.eval y1 = .agg vs1.toArray) (hy2 : a.eval y2 = .agg vs2.toArray) (hpq : p ≠ q)
  (hb1 : Blk w' p zs ty) (hb2 : Blk w' q zs ty) (hl1 : vs1.length = zs.length) (hl2 : vs2.length = zs.length) (hi1 : (P.info? ty).map (·.size) = some vs1.length) (hi2 : (P.info? ty).map (·.size) = some vs2.length)
  (h1 : ∀ v ∈ vs1, v.oneCell' = true) (h2 : ∀ v ∈ vs2, v.oneCell' = true) (he : Ext w w') (hp : w.heap.size ≤ p) (hq : w.heap.size ≤ q)
  (h : ∀ w4, Blk w4 p vs1 ty → Blk w4 q vs2 ty → Ext w w4 → Q .normal a w4) : wpAny P md ops Q 2 listed a w' := by
 refine ⟨fun h0 => (by rw [hr] at h0; cases h0), fun i hi => ?_⟩
 rw [hr] at hi
 obtain rfl : i = k := by simpa using hi
 unfold wpOp
 simp only [hk3, Region.wanted, hg3, if_true]
 left
 refine zau ty (.tmp d1) y1 ho3 p vs1 hx1 hy1 ty zs hb1 hl1 hi1 h1 fun w2 hb3 hg => ?_
 rw [hn3]
 refine ⟨fun h0 => (by rw [hr2] at h0; cases h0), fun j hj => ?_⟩
 rw [hr2] at hj
 obtain rfl : j = i + 1 := by simpa using hj
 unfold wpOp
 simp only [hk4, Region.wanted, hg4, if_true]
 left
 refine zau ty (.tmp d2) y2 ho4 q vs2 hx2 hy2 ty zs (hb2.grown hg (by simpa using hpq)) hl2 hi2 h2 fun w4 hb4 hg4 => ?_
 rw [hn4]
 exact ⟨hr3, h w4 (hb3.grown hg4 (by simpa using fun e => hpq e.symm)) hb4 (zae (zae he hg hp) hg4 hq)⟩
theorem end_var2 {k : Nat} {o1 o2 o3 o4 : Oper} {listed : Array Bool} {a : Act} {w : World} (ty : TypeId) (d1 d2 : Nat) (y1 y2 : Operand) (zs vs1 vs2 : List Value)
  (hk1 : ops[k]? = some o1) (hk2 : ops[k + 1]? = some o2) (hk3 : ops[k + 2]? = some o3) (hk4 : ops[k + 2 + 1]? = some o4)
  (hr : Region.ready md ops listed = [k, k + 1]) (hr1 : Region.ready md ops (listed.setIfInBounds k true) = [k + 1]) (hr2 : Region.ready md ops (listed.setIfInBounds (k + 1) true) = [k])
  (hr3 : Region.ready md ops ((listed.setIfInBounds k true).setIfInBounds (k + 1) true) = [k + 2]) (hr4 : Region.ready md ops (((listed.setIfInBounds k true).setIfInBounds (k + 1) true).setIfInBounds (k + 2) true) = [k + 2 + 1])
  (hr5 : Region.ready md ops ((((listed.setIfInBounds k true).setIfInBounds (k + 1) true).setIfInBounds (k + 2) true).setIfInBounds (k + 2 + 1) true) = [])
  (hd : doneB t listed = false) (hd1 : doneB t (listed.setIfInBounds k true) = false) (hd2 : doneB t (listed.setIfInBounds (k + 1) true) = false) (hd3 : doneB t ((listed.setIfInBounds k true).setIfInBounds (k + 1) true) = true)
  (hg1 : o1.guard = none) (hg2 : o2.guard = none) (hg3 : o3.guard = none) (hg4 : o4.guard = none) (ho1 : o1.op = .alloc ty) (ho2 : o2.op = .alloc ty) (hd1' : o1.dst = some d1) (hd2' : o2.dst = some d2) (hdd : d1 ≠ d2)
  (hz : ∀ w, (zeroValue ty).run P w = .ok (.agg zs.toArray) w) (ho3 : o3.op = .store ty (.tmp d1) y1) (ho4 : o4.op = .store ty (.tmp d2) y2) (hn3 : o3.dst = none) (hn4 : o4.dst = none) (hs1 : d1 < a.tmps.size) (hs2 : d2 < a.tmps.size)
  (hy1 : ∀ p q, ((a.put (some d1) (.pointer (some ⟨p, 0, none⟩))).put (some d2) (.pointer (some ⟨q, 0, none⟩))).eval y1 = .agg vs1.toArray)
  (hy2 : ∀ p q, ((a.put (some d1) (.pointer (some ⟨p, 0, none⟩))).put (some d2) (.pointer (some ⟨q, 0, none⟩))).eval y2 = .agg vs2.toArray)
  (hl1 : vs1.length = zs.length) (hl2 : vs2.length = zs.length) (hi1 : (P.info? ty).map (·.size) = some vs1.length) (hi2 : (P.info? ty).map (·.size) = some vs2.length) (h1 : ∀ v ∈ vs1, v.oneCell' = true) (h2 : ∀ v ∈ vs2, v.oneCell' = true)
  (h : ∀ p q w', p ≠ q → w.heap.size ≤ p → w.heap.size ≤ q → Blk w' p vs1 ty → Blk w' q vs2 ty → Ext w w' → Q .normal ((a.put (some d1) (.pointer (some ⟨p, 0, none⟩))).put (some d2) (.pointer (some ⟨q, 0, none⟩))) w') :
  wpAnyB P md ops Q t 4 listed a w.drew := by
 have tail : ∀ p q w', Blk w' p zs ty → Blk w' q zs ty → p ≠ q → w.heap.size ≤ p → w.heap.size ≤ q → Ext w w' →
   wpAny P md ops Q 2 ((listed.setIfInBounds k true).setIfInBounds (k + 1) true) ((a.put (some d1) (.pointer (some ⟨p, 0, none⟩))).put (some d2) (.pointer (some ⟨q, 0, none⟩))) w' := by
  intro p q w' b1 b2 hpq hp hq he
  refine two_stores ty d1 d2 p q y1 y2 zs vs1 vs2 hk3 hk4 hr3 hr4 hr5 hg3 hg4 ho3 ho4 hn3 hn4 ?_ ?_ (hy1 p q) (hy2 p q) hpq b1 b2 hl1 hl2 hi1 hi2 h1 h2 he hp hq (fun w4 b3 b4 e4 => h p q w4 hpq hp hq b3 b4 e4)
  ·simp [Act.eval, Act.put, hs1, Ne.symm hdd]
  ·simp [Act.eval, Act.put, hs2]
 refine ⟨fun h0 => (by rw [hd] at h0; cases h0), fun _ w1 hw1 => ⟨by rw [hr]; simp, fun i hi => ?_⟩⟩
 rw [hr] at hi
 have he1 : Ext w w1 := (Ext.drew w).trans hw1
 simp only [List.mem_cons, List.not_mem_nil, or_false] at hi
 rcases hi with rfl | rfl
 ·unfold wpOp
  simp only [hk1, Region.wanted, hg1, if_true]
  left
  unfold Oper.wp
  rw [zdv ho1 hz]
  simp only [Oper.upon, hd1']
  refine ⟨Ext.alloc _ _, fun h0 => (by rw [hd1] at h0; cases h0), fun _ w2 hw2 => ⟨by rw [hr1]; simp, fun j hj => ?_⟩⟩
  rw [hr1] at hj
  obtain rfl : j = i + 1 := by simpa using hj
  have hb1 : Blk w2 w1.heap.size zs ty := zaa (Blk.made w1 zs ty) hw2
  unfold wpOp
  simp only [hk2, Region.wanted, hg2, if_true]
  left
  unfold Oper.wp
  rw [zdv ho2 hz]
  simp only [Oper.upon, hd2']
  refine ⟨Ext.alloc _ _, fun _ w3 hw3 => ?_, fun h0 => (by rw [hd3] at h0; cases h0)⟩
  refine tail _ _ w3 (zaa (zaa hb1 (Ext.alloc w2 _)) hw3) (zaa (Blk.made w2 zs ty) hw3) (by have := hb1.lt; omega) he1.size (Nat.le_trans he1.size (Nat.le_of_lt hb1.lt)) (((he1.trans (Ext.alloc _ _)).trans hw2).trans ((Ext.alloc _ _).trans hw3))
 ·unfold wpOp
  simp only [hk2, Region.wanted, hg2, if_true]
  left
  unfold Oper.wp
  rw [zdv ho2 hz]
  simp only [Oper.upon, hd2']
  refine ⟨Ext.alloc _ _, fun h0 => (by rw [hd2] at h0; cases h0), fun _ w2 hw2 => ⟨by rw [hr2]; simp, fun j hj => ?_⟩⟩
  rw [hr2] at hj
  obtain rfl : j = k := by simpa using hj
  have hb1 : Blk w2 w1.heap.size zs ty := zaa (Blk.made w1 zs ty) hw2
  unfold wpOp
  simp only [hk1, Region.wanted, hg1, if_true]
  left
  unfold Oper.wp
  rw [zdv ho1 hz]
  simp only [Oper.upon, hd1']
  rw [Array.setIfInBounds_comm _ _ (by omega : j + 1 ≠ j), Act.put_comm a _ _ (by simpa using fun e => hdd e)]
  refine ⟨Ext.alloc _ _, fun _ w3 hw3 => ?_, fun h0 => (by rw [hd3] at h0; cases h0)⟩
  refine tail _ _ w3 (zaa (Blk.made w2 zs ty) hw3) (zaa (zaa hb1 (Ext.alloc w2 _)) hw3) (by have := hb1.lt; omega) (Nat.le_trans he1.size (Nat.le_of_lt hb1.lt)) he1.size (((he1.trans (Ext.alloc _ _)).trans hw2).trans ((Ext.alloc _ _).trans hw3))
end
end
section
section
variable {P : Program} {ops : Array Oper} {Q : Exit → Act → World → Prop} {md : Region.Mode} {t : Nat}
theorem zcw {o : Oper} {a : Act} {w : World} {K : Act → World → Prop} (d : Option Nat) (t e : TypeId) (len : Nat) (parts : Array (Nat × Operand)) (hd : o.dst = d) (ho : o.op = .buildSlice t len parts)
  (cells : Array Value) (ie : TypeInfo) (z : Value)
  (hu : P.underlying t = some (.slice e)) (hie : P.info? e = some ie) (hz : ie.zero = some z) (hsmall : ¬ len * ie.size > 2 ^ 24) (hpos : ¬ len * ie.size = 0)
  (hf : Instr.fill (fun i => some (i * ie.size, ie.size)) ((Array.range (len * ie.size)).map (z.cells[· % z.cells.size]!)) (parts.map fun (i, x) => (i, a.eval x)).toList = some cells)
  (h : K (a.put d (.slice (some ⟨w.heap.size, 0, none⟩) len len)) (w.alloc (.cells cells e))) : o.wp P a w K Q := by
 subst hd
 exact wp_buildSlice t e len parts ho cells ie z hu hie hz hsmall hpos hf h
end
end
section
section
variable {P : Program} {ops : Array Oper} {S : World → Prop}
theorem yi_val {o : Oper} {a : Act} (v : Value) (hw : Region.wanted o (yielded ops a.tmps) = true) (h : ∀ w, S w → (execOp a.eval o).run P w = .ok (.value v) w) : YieldsIf P ops S o v a := Or.inl ⟨hw, h⟩
theorem zbv {o : Oper} {a : Act} (x : Operand) (v : Value) (hw : Region.wanted o (yielded ops a.tmps) = true) (ho : o.op = .move x) (hx : a.eval x = v) : YieldsIf P ops S o v a :=
 yi_val v hw (fun w _ => by unfold execOp; simp only [ho, hx, Sem.run_pure])
theorem yi_assign {o : Oper} {a : Act} (x : Operand) (v : Value) (hw : Region.wanted o (yielded ops a.tmps) = true) (ho : o.op = .assign x) (hx : a.eval x = v) : YieldsIf P ops S o v a :=
 yi_val v hw (fun w _ => by unfold execOp; simp only [ho, hx, Sem.run_pure])
theorem zbm {o : Oper} {a : Act} (t : TypeId) (x : Operand) (lo hi : Option Operand) (vx v : Value) (vlo vhi : Option Value) (hw : Region.wanted o (yielded ops a.tmps) = true) (ho : o.op = .slice t x lo hi none) (hx : a.eval x = vx) (hlo : lo.map a.eval = vlo) (hhi : hi.map a.eval = vhi)
  (h : ∀ w, (Instr.sliceAt t vx vlo vhi none).run P w = .ok v w) : YieldsIf P ops S o v a :=
 yi_val v hw (fun w _ => by
  unfold execOp
  simp only [ho, hx, hlo, hhi, Option.map_none, Sem.run_bind, h, Result.andThen_ok, Sem.run_pure])
theorem zaw {o : Oper} {a : Act} {w : World} {K : Act → World → Prop} {Q : Exit → Act → World → Prop} {E : Prop} (hw : Region.wanted o (yielded ops a.tmps) = true) (h : Oper.wp P o a w K Q) : if Region.wanted o (yielded ops a.tmps) = true then Oper.wp P o a w K Q else E := by
 rw [if_pos hw]
 exact h
end
end
section
section
variable {P : Program} {ops : Array Oper} {S : World → Prop}
theorem yi_not {o : Oper} {a : Act} (ty : TypeId) (x : Operand) (b : Bool) (hw : Region.wanted o (yielded ops a.tmps) = true) (ho : o.op = .unOp .not ty x) (hx : a.eval x = .bool b) : YieldsIf P ops S o (.bool !b) a :=
 yi_val _ hw (fun w _ => by
  unfold execOp
  simp [ho, hx, Op.unary, Result.andThen])
theorem yi_and {o : Oper} {a : Act} (k : IntKind) (ty rt : TypeId) (x y : Operand) (m n r : Int) (hr : bits .and k m n = r) (hw : Region.wanted o (yielded ops a.tmps) = true) (ho : o.op = .binOp .and ty x y rt) (hx : a.eval x = .int k m) (hy : a.eval y = .int k n) : YieldsIf P ops S o (.int k r) a :=
 yi_val _ hw (fun w _ => by rw [← hr]; unfold execOp bits; simp [ho, hx, hy, eqGuard, binOp, Op.intBits])
theorem yi_iconv {o : Oper} {a : Act} (src dst : TypeId) (x : Operand) (k k' : IntKind) (n r : Int) (hs : (P.underlying src).isSome = true) (hd : P.underlying dst = some (.int k')) (hr : k'.wrap n = r) (hw : Region.wanted o (yielded ops a.tmps) = true) (ho : o.op = .convert src dst x) (hx : a.eval x = .int k n) : YieldsIf P ops S o (.int k' r) a :=
 yi_val _ hw (fun w _ => by
  obtain ⟨u, hu⟩ := Option.isSome_iff_exists.1 hs
  have h : (convert src dst (.int k n)).run P w = .ok (.int k' r) w := by
   simp [convert, run_underlying hu, run_underlying hd, Conv.intToInt, hr]
  unfold execOp
  simp only [ho, hx, Sem.run_bind, h, Result.andThen_ok, Sem.run_pure])
theorem zby {o : Oper} {a : Act} {w : World} {K : Act → World → Prop} {Q : Exit → Act → World → Prop} (d : Option Nat) (ty : TypeId) (zs : List Value) (hd : o.dst = d) (ho : o.op = .alloc ty) (hz : ∀ w, (zeroValue ty).run P w = .ok (.agg zs.toArray) w)
  (h : K (a.put d (.pointer (some ⟨w.heap.size, 0, none⟩))) (w.alloc (.cells zs.toArray ty))) : o.wp P a w K Q := by
 subst hd
 unfold Oper.wp
 rw [zdv ho hz]
 exact h
theorem wp_conv_d {o : Oper} {a : Act} {w : World} {K : Act → World → Prop} {Q : Exit → Act → World → Prop} (d : Option Nat) (s t : TypeId) (x : Operand) (vx v : Value) (w' : World) (hd : o.dst = d) (ho : o.op = .convert s t x) (hx : a.eval x = vx) (hr : (convert s t vx).run P w = .ok v w')
  (h : K (a.put d v) w') : o.wp P a w K Q := by
 subst hd
 unfold Oper.wp execOp
 simp only [ho, hx, Sem.run_bind, hr, Result.andThen_ok, Sem.run_pure]
 exact h
theorem yi_build {o : Oper} {a : Act} (ty : TypeId) (parts : Array (Nat × Operand)) (vs : Array (Nat × Value)) (v : Value) (hr : ∀ w, (Instr.build ty vs).run P w = .ok v w) (hw : Region.wanted o (yielded ops a.tmps) = true) (ho : o.op = .build ty parts) (hp : parts.map (fun (i, x) => (i, a.eval x)) = vs) : YieldsIf P ops S o v a :=
 yi_val _ hw (fun w _ => by
  subst hp
  unfold execOp
  simp only [ho, Sem.run_bind, hr, Result.andThen_ok, Sem.run_pure])
theorem yi_add {o : Oper} {a : Act} (k : IntKind) (ty rt : TypeId) (x y : Operand) (m n r : Int) (hr : k.wrap (m + n) = r) (hw : Region.wanted o (yielded ops a.tmps) = true) (ho : o.op = .binOp .add ty x y rt) (hx : a.eval x = .int k m) (hy : a.eval y = .int k n) : YieldsIf P ops S o (.int k r) a :=
 yi_val _ hw (fun w _ => by unfold execOp; simp [ho, hx, hy, eqGuard, binOp, Op.intArith, hr])
end
end
theorem fold_lay (off : Nat) (post : List Value) : ∀ (new mid pre : List Value) (k : Nat), new.length = mid.length → pre.length = off + k →
  (new.zipIdx k).foldl (fun (cs : Array Value) (x : Value × Nat) => cs.setIfInBounds (off + x.2) x.1) (pre ++ (mid ++ post)).toArray = (pre ++ (new ++ post)).toArray
 | [], mid, pre, k, h, hp => by
  obtain rfl : mid = [] := List.eq_nil_of_length_eq_zero (by simpa using h.symm)
  rfl
 | c :: new, [], pre, k, h, hp => by simp at h
 | c :: new, m :: mid, pre, k, h, hp => by
  rw [List.zipIdx_cons, List.foldl_cons]
  have e : (pre ++ (m :: mid ++ post)).toArray.setIfInBounds (off + k) c = ((pre ++ [c]) ++ (mid ++ post)).toArray := by
   rw [List.setIfInBounds_toArray, ← hp, List.set_append_right _ _ (Nat.le_refl _), Nat.sub_self]
   simp
  show (new.zipIdx (k + 1)).foldl _ ((pre ++ (m :: mid ++ post)).toArray.setIfInBounds (off + k) c) = _
  rw [e, fold_lay off post new mid (pre ++ [c]) (k + 1) (by simpa using h) (by simp [hp]; omega)]
  simp
theorem fill_lay {place : Nat → Option (Nat × Nat)} {i off n : Nat} {pre mid post new : List Value} {rest : List (Nat × Value)} (hp : place i = some (off, n)) (hl : pre.length = off) (hm : mid.length = n) (hn : new.length = n) :
  Instr.fill place (pre ++ (mid ++ post)).toArray ((i, .agg new.toArray) :: rest) = Instr.fill place (pre ++ (new ++ post)).toArray rest := by
 have e : (new.toArray.zipIdx.foldl (fun (cs : Array Value) (x : Value × Nat) => cs.setIfInBounds (off + x.2) x.1) (pre ++ (mid ++ post)).toArray) = (pre ++ (new ++ post)).toArray := by
  rw [← fold_lay off post new mid pre 0 (by rw [hn, hm]) (by rw [hl]; rfl), ← Array.foldl_toList, Array.toList_zipIdx]
 rw [Instr.fill, hp]
 have h1 : (Value.cells (.agg new.toArray)).size = n := by simpa [Value.cells] using hn
 have h2 : ¬ (off + n > (pre ++ (mid ++ post)).toArray.size) := by simp [hl, hm]
 simp only [h1]
 rw [if_neg (by simp [h2]; simp at h2; omega)]
 exact congrArg (fun z => Instr.fill place z rest) e
theorem boxes_one (w : World) (ks : List Value) (T : TypeId) : Blk (w.alloc (.cells ks.toArray T)) w.heap.size ks T ∧ Ext w (w.alloc (.cells ks.toArray T)) := ⟨Blk.made w ks T, Ext.alloc w _⟩
theorem zef {P : Program} {w : World} {ops : Array Oper} {rest : List Oper} {o : Oper} {a : Act} {Q : Exit → Act → World → Prop} (hgd : o.guard = none) (ty : TypeId) (parts : Array (Nat × Operand)) (ho : o.op = .build ty parts)
  (vs : Array (Nat × Value)) (hp : parts.map (fun (i, x) => (i, a.eval x)) = vs) (v : Value) (hr : (Instr.build ty vs).run P w = .ok v w) (h : wpList P ops Q rest (a.put o.dst v) w) : wpList P ops Q (o :: rest) a w :=
 wpList_plain hgd fun _ hK => by
  subst hp
  unfold Oper.wp execOp
  simp only [ho, Sem.run_bind, hr, Result.andThen_ok, Sem.run_pure]
  exact hK _ _ h
section
section
variable {P : Program} {ops : Array Oper} {Q : Exit → Act → World → Prop} {md : Region.Mode} {t : Nat} {C : World → Prop} {D : Act → Prop}
theorem zax {o : Oper} {rest : List Oper} {a : Act} (ty : TypeId) (x : Operand) (c k : Nat) (cs : List Value) (d : TypeDesc) (hw : Region.wanted o (yielded ops a.tmps) = true) (ho : o.op = .load ty x)
  (hx : a.eval x = .pointer (some ⟨c, k, none⟩)) (hC : ∀ w, C w → w.rangeAt c k cs) (hu : P.underlying ty = some d) (hd : d.isRow = true) (hi : (P.info? ty).map (·.size) = some cs.length)
  (next : wpDet P ops C D rest (a.put o.dst (.agg cs.toArray))) : wpDet P ops C D (o :: rest) a := by
 rcases yieldsIf_load_mid (S := C) hw ty x ho c k hx cs d hC hu hd hi with ⟨_, h⟩ | ⟨h, _⟩
 ·exact zbf _ hw h next
 ·rw [hw] at h; cases h
theorem zbc {o : Oper} {rest : List Oper} {a : Act} (ty : TypeId) (x : Operand) (c f i j : Nat) (hw : Region.wanted o (yielded ops a.tmps) = true) (ho : o.op = .fieldAddr ty x f) (hx : a.eval x = .pointer (some ⟨c, i, none⟩))
  (hr : ∀ w, (Instr.fieldAt ty (.pointer (some ⟨c, i, none⟩)) f).run P w = .ok (.pointer (some ⟨c, j, none⟩)) w)
  (next : wpDet P ops C D rest (a.put o.dst (.pointer (some ⟨c, j, none⟩)))) : wpDet P ops C D (o :: rest) a :=
 zbf _ hw (fun w _ => by unfold execOp; simp only [ho, hx, Sem.run_bind, hr, Result.andThen_ok, Sem.run_pure]) next
theorem det_build {o : Oper} {rest : List Oper} {a : Act} (ty : TypeId) (parts : Array (Nat × Operand)) (vs : Array (Nat × Value)) (v : Value) (hw : Region.wanted o (yielded ops a.tmps) = true) (ho : o.op = .build ty parts)
  (hp : parts.map (fun (i, x) => (i, a.eval x)) = vs) (hr : ∀ w, (Instr.build ty vs).run P w = .ok v w)
  (next : wpDet P ops C D rest (a.put o.dst v)) : wpDet P ops C D (o :: rest) a :=
 zbf v hw (fun w _ => by
  subst hp
  unfold execOp
  simp only [ho, Sem.run_bind, hr, Result.andThen_ok, Sem.run_pure]) next
theorem det_quo {o : Oper} {rest : List Oper} {a : Act} (ty rt : TypeId) (x y : Operand) (m n : Nat) (hw : Region.wanted o (yielded ops a.tmps) = true) (ho : o.op = .binOp .quo ty x y rt) (hx : a.eval x = .int .i64 (m : Int)) (hy : a.eval y = .int .i64 (n : Int)) (hn : 0 < n) (hm : m < 2 ^ 31)
  (next : wpDet P ops C D rest (a.put o.dst (.int .i64 ((m / n : Nat) : Int)))) : wpDet P ops C D (o :: rest) a :=
 zbf _ hw (fun w _ => by
  have h1 : (n : Int) ≠ 0 := by omega
  have h2 : (m : Int).tdiv n = ((m / n : Nat) : Int) := by rw [Int.tdiv_eq_ediv_of_nonneg (by omega)]; rfl
  have h4 : m / n ≤ m := Nat.div_le_self _ _
  have h3 : IntKind.i64.wrap ((m / n : Nat) : Int) = ((m / n : Nat) : Int) := by
   rw [IntKind.wrap_i64]
   generalize m / n = q at *
   omega
  unfold execOp
  simp only [ho, hx, hy]
  simp [eqGuard, binOp, Op.intDiv, h1, Result.andThen]
  rw [show ((m : Int) / (n : Int)) = ((m / n : Nat) : Int) from rfl, h3, if_neg (show ¬ n = 0 by omega)]) next
theorem det_rem {o : Oper} {rest : List Oper} {a : Act} (ty rt : TypeId) (x y : Operand) (m n : Nat) (hw : Region.wanted o (yielded ops a.tmps) = true) (ho : o.op = .binOp .rem ty x y rt) (hx : a.eval x = .int .i64 (m : Int)) (hy : a.eval y = .int .i64 (n : Int)) (hn : 0 < n) (hm : m < 2 ^ 31)
  (next : wpDet P ops C D rest (a.put o.dst (.int .i64 ((m % n : Nat) : Int)))) : wpDet P ops C D (o :: rest) a :=
 zbf _ hw (fun w _ => by
  have h1 : (n : Int) ≠ 0 := by omega
  unfold execOp
  simp only [ho, hx, hy]
  simp [eqGuard, binOp, Op.intDiv, h1, Result.andThen]
  rw [if_neg (show ¬ n = 0 by omega)]
  simp [Int.tmod_eq_emod_of_nonneg (show (0 : Int) ≤ (m : Int) by omega)]) next
theorem det_shrn {o : Oper} {rest : List Oper} {a : Act} (k : IntKind) (ty rt : TypeId) (x y : Operand) (m n : Nat) (hw : Region.wanted o (yielded ops a.tmps) = true) (ho : o.op = .binOp .shr ty x y rt) (hx : a.eval x = .int k (m : Int)) (hy : a.eval y = .int .i64 (n : Int)) (hn : n ≤ k.bits)
  (next : wpDet P ops C D rest (a.put o.dst (.int k ((m / 2 ^ n : Nat) : Int)))) : wpDet P ops C D (o :: rest) a :=
 zbf _ hw (fun w _ => by
  unfold execOp
  simp only [ho, hx, hy]
  simp [eqGuard, binOp, Op.shift, Result.andThen]
  rw [if_neg (show ¬ (n : Int) < 0 by omega), Nat.min_eq_left hn, Int.fdiv_eq_ediv_of_nonneg _ (by exact_mod_cast Nat.zero_le (2 ^ n))]) next
theorem det_eqi {o : Oper} {rest : List Oper} {a : Act} (k : IntKind) (ty rt : TypeId) (x y : Operand) (b c : Int) (r : Bool) (hw : Region.wanted o (yielded ops a.tmps) = true) (ho : o.op = .binOp .eql ty x y rt) (hx : a.eval x = .int k b) (hy : a.eval y = .int k c) (hr : decide (b = c) = r)
  (next : wpDet P ops C D rest (a.put o.dst (.bool r))) : wpDet P ops C D (o :: rest) a :=
 zbf _ hw (fun w _ => by
  subst hr
  unfold execOp
  simp only [ho, hx, hy]
  simp [eqGuard, binOp, Op.intCmp, Result.andThen]
  try rw [Bool.eq_iff_iff]; simp) next
end
theorem fill_pair {place : Nat → Option (Nat × Nat)} {m n : Nat} (p0 : place 0 = some (0, m)) (p1 : place 1 = some (m, n)) (zero : Array Value) (hz : zero.size = m + n) {a b : List Value} (ha : a.length = m) (hb : b.length = n) :
  Instr.fill place zero [(0, .agg a.toArray), (1, .agg b.toArray)] = some (a ++ b).toArray := by
 obtain ⟨l, hl⟩ : ∃ l : List Value, zero = l.toArray ∧ l.length = m + n := ⟨zero.toList, by simp, by simpa using hz⟩
 obtain ⟨rfl, hl⟩ := hl
 have e0 : l = [] ++ (l.take m ++ l.drop m) := by simp
 have l0 : (l.take m).length = m := by simp [hl]
 have l1 : (l.drop m).length = n := by simp [hl]
 generalize l.take m = q0 at *
 generalize l.drop m = q1 at *
 rw [e0, fill_lay (off := 0) (n := m) p0 rfl l0 ha]
 rw [show ([] : List Value) ++ (a ++ q1) = a ++ (q1 ++ []) by simp, fill_lay (off := m) (n := n) p1 ha l1 hb]
 rw [Instr.fill]
 simp
theorem rng_lo {w : World} {c o : Nat} {a b : List Value} (h : w.rangeAt c o (a ++ b)) : w.rangeAt c o a := fun j v hj => by
 have hjl : j < a.length := by
  rcases Nat.lt_or_ge j a.length with h' | h'
  ·exact h'
  ·rw [List.getElem?_eq_none h'] at hj; cases hj
 exact h j v (by rw [List.getElem?_append_left hjl]; exact hj)
theorem rng_hi {w : World} {c o m k : Nat} {a b : List Value} (h : w.rangeAt c o (a ++ b)) (hm : a.length = m) (hk : o + m = k) : w.rangeAt c k b := fun j v hj => by
 have e := h (m + j) v (by rw [List.getElem?_append_right (by omega), ← hm, Nat.add_sub_cancel_left]; exact hj)
 rw [← Nat.add_assoc, hk] at e
 exact e
end
def ptN (x z : List UInt8) : List Value := x.map bval ++ z.map bval
def rgN (a b c d : List UInt8) : List Value := ptN a b ++ ptN c d
theorem zdp {x z : List UInt8} (hx : x.length = 32) (hz : z.length = 32) : (ptN x z).length = 64 := by simp [ptN, hx, hz]
theorem rgN_length {a b c d : List UInt8} (ha : a.length = 32) (hb : b.length = 32) (hc : c.length = 32) (hd : d.length = 32) : (rgN a b c d).length = 128 := by simp [rgN, zdp, ha, hb, hc, hd]
theorem ptN_one (x z : List UInt8) : ∀ v ∈ ptN x z, v.oneCell' = true := by
 intro v hv
 rcases List.mem_append.1 hv with h | h <;> exact zag _ v h
theorem rgN_one (a b c d : List UInt8) : ∀ v ∈ rgN a b c d, v.oneCell' = true := by
 intro v hv
 rcases List.mem_append.1 hv with h | h <;> exact ptN_one _ _ v h
theorem Tryz.arr63 : (Tryz.prog.info? 63).map (·.size) = some 64 := by kernel_rfl
theorem Tryz.arr65 : (Tryz.prog.info? 65).map (·.size) = some 128 := by kernel_rfl
theorem zcp {x z : List UInt8} (hx : x.length = 32) (hz : z.length = 32) : (Tryz.prog.info? 63).map (·.size) = some (ptN x z).length := by rw [zdp hx hz]; exact Tryz.arr63
theorem rgN_size {a b c d : List UInt8} (ha : a.length = 32) (hb : b.length = 32) (hc : c.length = 32) (hd : d.length = 32) : (Tryz.prog.info? 65).map (·.size) = some (rgN a b c d).length := by rw [rgN_length ha hb hc hd]; exact Tryz.arr65
theorem build_ptN {x z : List UInt8} (hx : x.length = 32) (hz : z.length = 32) (w : World) : (Instr.build 63 #[(0, .agg (x.map bval).toArray), (1, .agg (z.map bval).toArray)]).run Tryz.prog w = .ok (.agg (ptN x z).toArray) w := by
 refine run_build w _ _ _ ?_
 have e := fill_pair (place := fun i => (#[(0, 32), (32, 32)] : Array (Nat × Nat))[i]?) rfl rfl (ints .u8 (List.replicate 64 0)).toArray (by simp [zad]) (a := x.map bval) (b := z.map bval) (by simpa using hx) (by simpa using hz)
 refine Eq.trans ?_ e
 kernel_rfl
theorem build_rgN {a b c d : List UInt8} (ha : a.length = 32) (hb : b.length = 32) (hc : c.length = 32) (hd : d.length = 32) (w : World) : (Instr.build 65 #[(0, .agg (ptN a b).toArray), (1, .agg (ptN c d).toArray)]).run Tryz.prog w = .ok (.agg (rgN a b c d).toArray) w := by
 refine run_build w _ _ _ ?_
 have e := fill_pair (place := fun i => (#[(0, 64), (64, 64)] : Array (Nat × Nat))[i]?) rfl rfl (ints .u8 (List.replicate 128 0)).toArray (by simp [zad]) (a := ptN a b) (b := ptN c d) (zdp ha hb) (zdp hc hd)
 refine Eq.trans ?_ e
 kernel_rfl
theorem ptN_x {w : World} {c o : Nat} {x z : List UInt8} (h : w.rangeAt c o (ptN x z)) : w.rangeAt c o (x.map bval) := rng_lo h
theorem ptN_z {w : World} {c o k : Nat} {x z : List UInt8} (h : w.rangeAt c o (ptN x z)) (hx : x.length = 32) (hk : o + 32 = k) : w.rangeAt c k (z.map bval) := rng_hi h (by simpa using hx) hk
theorem rgN_lo {w : World} {c o : Nat} {a b d e : List UInt8} (h : w.rangeAt c o (rgN a b d e)) : w.rangeAt c o (ptN a b) := rng_lo h
theorem rgN_hi {w : World} {c o k : Nat} {a b d e : List UInt8} (h : w.rangeAt c o (rgN a b d e)) (ha : a.length = 32) (hb : b.length = 32) (hk : o + 64 = k) : w.rangeAt c k (ptN d e) := rng_hi h (zdp ha hb) hk
def zpt : List Value := ints .u8 (List.replicate 64 0)
def zrg : List Value := ints .u8 (List.replicate 128 0)
theorem zpt_length : zpt.length = 64 := by simp [zpt, zad]
theorem zrg_length : zrg.length = 128 := by simp [zrg, zad]
theorem mask32 (a : Nat) (ha : a < 18446744073709551616) : bits .and .u64 (a : Int) 4294967295 = ((a % 4294967296 : Nat) : Int) := by
 have h := bits_and_u64_nat a 4294967295 ha (by omega)
 have e : a &&& 4294967295 = a % 4294967296 := Nat.and_two_pow_sub_one_eq_mod a 32
 rw [e] at h
 exact h
theorem mask51 (a : Nat) (ha : a < 18446744073709551616) : bits .and .u64 (a : Int) 2251799813685247 = ((a % 2251799813685248 : Nat) : Int) := by
 have h := bits_and_u64_nat a 2251799813685247 ha (by omega)
 have e : a &&& 2251799813685247 = a % 2251799813685248 := Nat.and_two_pow_sub_one_eq_mod a 51
 rw [e] at h
 exact h
theorem nat32 (a : Nat) : (a : Int) / 4294967296 = ((a / 4294967296 : Nat) : Int) := by omega
theorem mul64_any (x y : Nat) (hx : x < 18446744073709551616) (hy : y < 18446744073709551616) (w : World) :
  Calls Tryz.prog 117 #[.int .u64 x, .int .u64 y] w fun e w' => e = .returned (.tuple #[.int .u64 ((x * y / 18446744073709551616 : Nat) : Int), .int .u64 ((x * y % 18446744073709551616 : Nat) : Int)]) ∧ w' = w := by
 obtain ⟨bd, bt, bw, hhi⟩ := Lib.mul64_hi x y hx hy
 have ba := Lib.half_mul_le (a := x / 4294967296) (b := y / 4294967296) (by omega) (by omega)
 have bb := Lib.half_mul_le (a := x / 4294967296) (b := y % 4294967296) (by omega) (by omega)
 have bc := Lib.half_mul_le (a := x % 4294967296) (b := y / 4294967296) (by omega) (by omega)
 have ba' : x / 4294967296 * (y / 4294967296) < 18446744073709551616 := by omega
 have bb' : x / 4294967296 * (y % 4294967296) < 18446744073709551616 := by omega
 have bc' : x % 4294967296 * (y / 4294967296) < 18446744073709551616 := by omega
 have bh1 : x / 4294967296 * (y / 4294967296) + (x / 4294967296 * (y % 4294967296) + x % 4294967296 * (y % 4294967296) / 4294967296) / 4294967296 < 18446744073709551616 := by omega
 have bh : x / 4294967296 * (y / 4294967296) + (x / 4294967296 * (y % 4294967296) + x % 4294967296 * (y % 4294967296) / 4294967296) / 4294967296 + ((x / 4294967296 * (y % 4294967296) + x % 4294967296 * (y % 4294967296) / 4294967296) % 4294967296 + x % 4294967296 * (y / 4294967296)) / 4294967296 < 18446744073709551616 := by omega
 go_enter Tryz.func117, Tryz.ntmps117
 go_wp2_with fail
 simp only [mask32 x hx, mask32 y hy, nat32, natMul, natAdd, w64 bd, w64 bb', w64 bt, mask32 _ bt, w64 bc', w64 bw, w64 ba', w64 bh1, w64 bh, w64m (x * y)]
 rw [hhi]
 go_ret2
 exact ⟨rfl, rfl⟩
theorem add64_run (x y : Nat) (w : World) : (callFunc 118 #[.int .u64 x, .int .u64 y, .int .u64 0]).run Tryz.prog w =
  .ok (.value (.tuple #[.int .u64 (((x + y) % 18446744073709551616 : Nat) : Int), .int .u64 (((x + y) / 18446744073709551616 : Nat) : Int)])) w := by
 rw [run_callFunc_extern Tryz.func118 (by kernel_rfl) (by kernel_rfl) (by kernel_rfl) (e := add64Entry) (by kernel_rfl), run_add64 x y 0 (by omega) (by omega) (by omega) (by omega)]
 simp only [Result.andThen]
 congr 5 <;> omega
def wideV (n : Nat) : Value := .agg #[.int .u64 ((n / 18446744073709551616 : Nat) : Int), .int .u64 ((n % 18446744073709551616 : Nat) : Int)]
theorem Tryz.arr132 : (Tryz.prog.info? 132).map (·.size) = some 2 := by kernel_rfl
theorem one2 (a b : Int) : ∀ v ∈ [Value.int .u64 a, .int .u64 b], v.oneCell' = true := by
 intro v hv
 rcases List.mem_cons.1 hv with rfl | hv
 ·rfl
 ·rcases List.mem_cons.1 hv with rfl | hv
  ·rfl
  ·cases hv
theorem product_hl (x y h l : Nat) (hx : x < 18446744073709551616) (hy : y < 18446744073709551616) (e1 : x * y / 18446744073709551616 = h) (e2 : x * y % 18446744073709551616 = l) (w : World) :
  Calls Tryz.prog 98 #[.int .u64 x, .int .u64 y] w fun e w' => e = .returned (.agg #[.int .u64 h, .int .u64 l]) ∧ Below w.heap.size w w' := by
 have HM : ∀ w, Calls Tryz.prog 117 #[.int .u64 x, .int .u64 y] w fun e w' => e = .returned (.tuple #[.int .u64 h, .int .u64 l]) ∧ w' = w := fun w => by
  have := mul64_any x y hx hy w
  rwa [e1, e2] at this
 have HB := jh (Blk.made w [.int .u64 0, .int .u64 0] 132)
 have HE := jh (Ext.alloc w (.cells [.int .u64 0, .int .u64 0].toArray 132))
 clear hx hy e1 e2
 go_enter Tryz.func98, Tryz.ntmps98
 go_wp2_with fail
 refine (HM _).mono ?_
 rintro e w' ⟨rfl, rfl⟩
 go_wp2_with (refine zac rfl _ _ _ rfl w.heap.size [.int .u64 h, .int .u64 l] rfl rfl _ _ HB.out rfl Tryz.arr132 (one2 _ _) ?_; intro w5 hb5 hg5)
 exact bodyPost_ret (v := .agg #[.int .u64 h, .int .u64 l]) (zbk (by rfl) _ w.heap.size _ _ _ (by rfl) hb5 Tryz.underlying132 rfl Tryz.arr132) rfl ⟨rfl, zae HE.out hg5 (Nat.le_refl _)⟩
theorem product_any (x y : Nat) (hx : x < 18446744073709551616) (hy : y < 18446744073709551616) (w : World) :
  Calls Tryz.prog 98 #[.int .u64 x, .int .u64 y] w fun e w' => e = .returned (wideV (x * y)) ∧ Below w.heap.size w w' := product_hl x y _ _ hx hy rfl rfl w
theorem above_math (h l : Nat) (hl : l < 18446744073709551616) : bits .or .u64 (IntKind.u64.wrap ((h : Int) * 8192)) ((l : Int) / 2251799813685248) = (((h * 18446744073709551616 + l) / 2251799813685248 % 18446744073709551616 : Nat) : Int) := by
 have e1 : IntKind.u64.wrap ((h : Int) * 8192) = ((8192 * (h % 2251799813685248) : Nat) : Int) := by rw [IntKind.wrap_u64]; omega
 have e2 : (l : Int) / 2251799813685248 = ((l / 2251799813685248 : Nat) : Int) := by omega
 rw [e1, e2, or64 _ _ (by omega) (by omega), or_sum 13 _ _ (by omega)]
 omega
theorem above_hl (h l : Nat) (hl : l < 18446744073709551616) (w : World) :
  Calls Tryz.prog 100 #[.agg #[.int .u64 h, .int .u64 l]] w fun e w' => e = .returned (.int .u64 (((h * 18446744073709551616 + l) / 2251799813685248 % 18446744073709551616 : Nat) : Int)) ∧ Below w.heap.size w w' := by
 rw [← above_math h l hl]
 clear hl
 go_enter Tryz.func100, Tryz.ntmps100
 go_wp2_with fail
 go_ret
 exact ⟨rfl, Ext.alloc _ _⟩
theorem above_any (n : Nat) (w : World) :
  Calls Tryz.prog 100 #[wideV n] w fun e w' => e = .returned (.int .u64 ((n / 2251799813685248 % 18446744073709551616 : Nat) : Int)) ∧ Below w.heap.size w w' := by
 have := above_hl (n / 18446744073709551616) (n % 18446744073709551616) (Nat.mod_lt _ (by omega)) w
 rwa [Nat.div_add_mod'] at this
theorem plus_hl (h l x y ph pl c s r : Nat) (hx : x < 18446744073709551616) (hy : y < 18446744073709551616) (e1 : x * y / 18446744073709551616 = ph) (e2 : x * y % 18446744073709551616 = pl) (e3 : (l + pl) / 18446744073709551616 = c) (e4 : (l + pl) % 18446744073709551616 = s)
  (e5 : h + ph + c = r) (hr : r < 18446744073709551616) (w : World) :
  Calls Tryz.prog 99 #[.agg #[.int .u64 h, .int .u64 l], .int .u64 x, .int .u64 y] w fun e w' => e = .returned (.agg #[.int .u64 r, .int .u64 s]) ∧ Below w.heap.size w w' := by
 have HM : ∀ w, Calls Tryz.prog 117 #[.int .u64 x, .int .u64 y] w fun e w' => e = .returned (.tuple #[.int .u64 ph, .int .u64 pl]) ∧ w' = w := fun w => by
  have := mul64_any x y hx hy w
  rwa [e1, e2] at this
 have HA : ∀ w, (callFunc 118 #[.int .u64 l, .int .u64 pl, .int .u64 0]).run Tryz.prog w = .ok (.value (.tuple #[.int .u64 s, .int .u64 c])) w := fun w => by
  have := add64_run l pl w
  rwa [e3, e4] at this
 have HB := jh (boxes2 w [.int .u64 h, .int .u64 l] [.int .u64 0, .int .u64 0] 132 132)
 have HR : IntKind.u64.wrap (IntKind.u64.wrap ((h : Int) + ph) + c) = (r : Int) := by
  rw [natAdd, w64 (by omega), natAdd, e5, w64 hr]
 have HR2 := jh HR
 clear hx hy e1 e2 e3 e4 e5 hr HR
 go_enter Tryz.func99, Tryz.ntmps99
 go_wp2_with fail
 refine (HM _).mono ?_
 rintro e w' ⟨rfl, rfl⟩
 go_wp2_with (refine zac rfl _ _ _ rfl (w.heap.size + 1) [.int .u64 (IntKind.u64.wrap (IntKind.u64.wrap ((h : Int) + ph) + c)), .int .u64 s] rfl rfl _ _ HB.out.2.1 rfl Tryz.arr132 (one2 _ _) ?_; intro w5 hb5 hg5)
 rw [HR2.out] at hb5
 exact bodyPost_ret (v := .agg #[.int .u64 r, .int .u64 s]) (zbk (by rfl) _ (w.heap.size + 1) _ _ _ (by rfl) hb5 Tryz.underlying132 rfl Tryz.arr132) rfl ⟨rfl, zae HB.out.2.2 hg5 (by omega)⟩
theorem zcd (n x y : Nat) (hx : x < 18446744073709551616) (hy : y < 18446744073709551616) (hn : n + x * y < 340282366920938463463374607431768211456) (w : World) :
  Calls Tryz.prog 99 #[wideV n, .int .u64 x, .int .u64 y] w fun e w' => e = .returned (wideV (n + x * y)) ∧ Below w.heap.size w w' := by
 have h1 := plus_hl (n / 18446744073709551616) (n % 18446744073709551616) x y _ _ _ _ _ hx hy rfl rfl rfl rfl rfl (by generalize x * y = z at *; omega) w
 refine h1.mono ?_
 rintro e w' ⟨rfl, hb⟩
 refine ⟨?_, hb⟩
 unfold wideV
 generalize x * y = z at *
 have q1 : n / 18446744073709551616 + z / 18446744073709551616 + (n % 18446744073709551616 + z % 18446744073709551616) / 18446744073709551616 = (n + z) / 18446744073709551616 := by omega
 have q2 : (n % 18446744073709551616 + z % 18446744073709551616) % 18446744073709551616 = (n + z) % 18446744073709551616 := by omega
 rw [q1, q2]
structure L5 where
 a : Nat
 b : Nat
 c : Nat
 d : Nat
 e : Nat
def L5.vs (x : L5) : List Value := [.int .u64 x.a, .int .u64 x.b, .int .u64 x.c, .int .u64 x.d, .int .u64 x.e]
def L5.v (x : L5) : Value := .agg x.vs.toArray
def L5.lt (B : Nat) (x : L5) : Prop := x.a < B ∧ x.b < B ∧ x.c < B ∧ x.d < B ∧ x.e < B
def L5.val (x : L5) : Nat := x.a + 2251799813685248 * x.b + 5070602400912917605986812821504 * x.c + 11417981541647679048466287755595961091061972992 * x.d + 25711008708143844408671393477458601640355247900524685364822016 * x.e
theorem L5.vs_one (x : L5) : ∀ v ∈ x.vs, v.oneCell' = true := by
 intro v hv
 simp only [L5.vs, List.mem_cons, List.not_mem_nil, or_false] at hv
 rcases hv with rfl | rfl | rfl | rfl | rfl <;> rfl
theorem L5.lt.mono {B B' : Nat} {x : L5} (h : x.lt B) (hb : B ≤ B') : x.lt B' := ⟨Nat.lt_of_lt_of_le h.1 hb, Nat.lt_of_lt_of_le h.2.1 hb, Nat.lt_of_lt_of_le h.2.2.1 hb, Nat.lt_of_lt_of_le h.2.2.2.1 hb, Nat.lt_of_lt_of_le h.2.2.2.2 hb⟩
def carriedL (x : L5) : L5 := ⟨x.a % 2251799813685248 + 19 * (x.e / 2251799813685248), x.b % 2251799813685248 + x.a / 2251799813685248, x.c % 2251799813685248 + x.b / 2251799813685248, x.d % 2251799813685248 + x.c / 2251799813685248, x.e % 2251799813685248 + x.d / 2251799813685248⟩
theorem carriedL_lt (x : L5) (h : x.lt 18446744073709551616) : (carriedL x).lt 2251799813947392 := by
 obtain ⟨h1, h2, h3, h4, h5⟩ := h
 refine ⟨?_, ?_, ?_, ?_, ?_⟩ <;> simp only [carriedL] <;> omega
theorem carriedL_val (x : L5) : Cong ((carriedL x).val : Nat) (x.val : Nat) := by
 refine ⟨-((x.e / 2251799813685248 : Nat) : Int), ?_⟩
 simp only [carriedL, L5.val]
 have hp : pP = 57896044618658097711785492504343953926634992332820282019728792003956564819949 := rfl
 rw [hp]
 omega
def col0 (x y : L5) : Nat := x.a * y.a + 19 * x.b * y.e + 19 * x.c * y.d + 19 * x.d * y.c + 19 * x.e * y.b
def col1 (x y : L5) : Nat := x.a * y.b + x.b * y.a + 19 * x.c * y.e + 19 * x.d * y.d + 19 * x.e * y.c
def col2 (x y : L5) : Nat := x.a * y.c + x.b * y.b + x.c * y.a + 19 * x.d * y.e + 19 * x.e * y.d
def col3 (x y : L5) : Nat := x.a * y.d + x.b * y.c + x.c * y.b + x.d * y.a + 19 * x.e * y.e
def col4 (x y : L5) : Nat := x.a * y.e + x.b * y.d + x.c * y.c + x.d * y.b + x.e * y.a
def rowsL (v w x y z : Nat) : L5 := ⟨v % 2251799813685248 + 19 * (z / 2251799813685248), w % 2251799813685248 + v / 2251799813685248, x % 2251799813685248 + w / 2251799813685248, y % 2251799813685248 + x / 2251799813685248, z % 2251799813685248 + y / 2251799813685248⟩
def timesL (x y : L5) : L5 := carriedL (rowsL (col0 x y) (col1 x y) (col2 x y) (col3 x y) (col4 x y))
theorem zcq {x y : Nat} (hx : x < 18014398509481984) (hy : y < 18014398509481984) : x * y ≤ 324518553658426690754359001612289 := by
 have := Nat.mul_le_mul (show x ≤ 18014398509481983 by omega) (show y ≤ 18014398509481983 by omega)
 omega
theorem mul_lt54' {x y : Nat} (hx : x < 18014398509481984) (hy : y < 18014398509481984) : 19 * x * y ≤ 6165852519510107124332821030633491 := by
 have := zcq hx hy
 rw [Nat.mul_assoc]
 omega
theorem cols_lt {x y : L5} (hx : x.lt 18014398509481984) (hy : y.lt 18014398509481984) :
  col0 x y ≤ 77 * 324518553658426690754359001612289 ∧ col1 x y ≤ 77 * 324518553658426690754359001612289 ∧ col2 x y ≤ 77 * 324518553658426690754359001612289 ∧ col3 x y ≤ 77 * 324518553658426690754359001612289 ∧ col4 x y ≤ 5 * 324518553658426690754359001612289 := by
 obtain ⟨x1, x2, x3, x4, x5⟩ := hx
 obtain ⟨y1, y2, y3, y4, y5⟩ := hy
 refine ⟨?_, ?_, ?_, ?_, ?_⟩
 ·have := zcq x1 y1; have := mul_lt54' x2 y5; have := mul_lt54' x3 y4; have := mul_lt54' x4 y3; have := mul_lt54' x5 y2
  unfold col0; omega
 ·have := zcq x1 y2; have := zcq x2 y1; have := mul_lt54' x3 y5; have := mul_lt54' x4 y4; have := mul_lt54' x5 y3
  unfold col1; omega
 ·have := zcq x1 y3; have := zcq x2 y2; have := zcq x3 y1; have := mul_lt54' x4 y5; have := mul_lt54' x5 y4
  unfold col2; omega
 ·have := zcq x1 y4; have := zcq x2 y3; have := zcq x3 y2; have := zcq x4 y1; have := mul_lt54' x5 y5
  unfold col3; omega
 ·have := zcq x1 y5; have := zcq x2 y4; have := zcq x3 y3; have := zcq x4 y2; have := zcq x5 y1
  unfold col4; omega
theorem rowsL_lt {v w x y z : Nat} (hv : v ≤ 77 * 324518553658426690754359001612289) (hw : w ≤ 77 * 324518553658426690754359001612289) (hx : x ≤ 77 * 324518553658426690754359001612289) (hy : y ≤ 77 * 324518553658426690754359001612289) (hz : z ≤ 5 * 324518553658426690754359001612289) : (rowsL v w x y z).lt 18446744073709551616 := by
 refine ⟨?_, ?_, ?_, ?_, ?_⟩ <;> simp only [rowsL] <;> omega
theorem timesL_lt {x y : L5} (hx : x.lt 18014398509481984) (hy : y.lt 18014398509481984) : (timesL x y).lt 18014398509481984 := by
 obtain ⟨h1, h2, h3, h4, h5⟩ := cols_lt hx hy
 exact (carriedL_lt _ (rowsL_lt h1 h2 h3 h4 h5)).mono (by omega)
theorem rowsL_val (v w x y z : Nat) : Cong ((rowsL v w x y z).val : Nat) ((L5.mk v w x y z).val : Nat) := by
 refine ⟨-((z / 2251799813685248 : Nat) : Int), ?_⟩
 simp only [rowsL, L5.val]
 have hp : pP = 57896044618658097711785492504343953926634992332820282019728792003956564819949 := rfl
 rw [hp]
 omega
theorem cols_ring (R a b c d e f g h i j : Int) : (a * f + 19 * b * j + 19 * c * i + 19 * d * h + 19 * e * g) + R * (a * g + b * f + 19 * c * j + 19 * d * i + 19 * e * h) + R ^ 2 * (a * h + b * g + c * f + 19 * d * j + 19 * e * i) + R ^ 3 * (a * i + b * h + c * g + d * f + 19 * e * j) + R ^ 4 * (a * j + b * i + c * h + d * g + e * f)
  - (a + R * b + R ^ 2 * c + R ^ 3 * d + R ^ 4 * e) * (f + R * g + R ^ 2 * h + R ^ 3 * i + R ^ 4 * j) = (R ^ 5 - 19) * -(b * j + c * i + d * h + e * g + R * (c * j + d * i + e * h) + R ^ 2 * (d * j + e * i) + R ^ 3 * (e * j)) := by grind
theorem val_int (a b c d e : Nat) : (((L5.mk a b c d e).val : Nat) : Int) = (a : Int) + 2251799813685248 * (b : Int) + 5070602400912917605986812821504 * (c : Int) + 11417981541647679048466287755595961091061972992 * (d : Int) + 25711008708143844408671393477458601640355247900524685364822016 * (e : Int) := by
 simp only [L5.val]
 omega
theorem cols_val (x y : L5) : Cong ((L5.mk (col0 x y) (col1 x y) (col2 x y) (col3 x y) (col4 x y)).val : Nat) ((x.val : Int) * (y.val : Nat)) := by
 obtain ⟨a, b, c, d, e⟩ := x
 obtain ⟨f, g, h, i, j⟩ := y
 have key := cols_ring 2251799813685248 a b c d e f g h i j
 have k2 : (2251799813685248 : Int) ^ 2 = 5070602400912917605986812821504 := by decide +kernel
 have k3 : (2251799813685248 : Int) ^ 3 = 11417981541647679048466287755595961091061972992 := by decide +kernel
 have k4 : (2251799813685248 : Int) ^ 4 = 25711008708143844408671393477458601640355247900524685364822016 := by decide +kernel
 have k5 : (2251799813685248 : Int) ^ 5 - 19 = pP := by decide +kernel
 rw [k2, k3, k4, k5] at key
 have c0 : ((col0 ⟨a, b, c, d, e⟩ ⟨f, g, h, i, j⟩ : Nat) : Int) = a * f + 19 * b * j + 19 * c * i + 19 * d * h + 19 * e * g := by simp only [col0, Int.natCast_add, Int.natCast_mul]; rfl
 have c1 : ((col1 ⟨a, b, c, d, e⟩ ⟨f, g, h, i, j⟩ : Nat) : Int) = a * g + b * f + 19 * c * j + 19 * d * i + 19 * e * h := by simp only [col1, Int.natCast_add, Int.natCast_mul]; rfl
 have c2 : ((col2 ⟨a, b, c, d, e⟩ ⟨f, g, h, i, j⟩ : Nat) : Int) = a * h + b * g + c * f + 19 * d * j + 19 * e * i := by simp only [col2, Int.natCast_add, Int.natCast_mul]; rfl
 have c3 : ((col3 ⟨a, b, c, d, e⟩ ⟨f, g, h, i, j⟩ : Nat) : Int) = a * i + b * h + c * g + d * f + 19 * e * j := by simp only [col3, Int.natCast_add, Int.natCast_mul]; rfl
 have c4 : ((col4 ⟨a, b, c, d, e⟩ ⟨f, g, h, i, j⟩ : Nat) : Int) = a * j + b * i + c * h + d * g + e * f := by simp only [col4, Int.natCast_add, Int.natCast_mul]
 rw [val_int, val_int, val_int, c0, c1, c2, c3, c4]
 exact ⟨_, key⟩
theorem timesL_val (x y : L5) : Cong ((timesL x y).val : Nat) ((x.val : Int) * (y.val : Nat)) := (carriedL_val _).trans ((rowsL_val _ _ _ _ _).trans (cols_val x y))
def sqL (x : L5) : Nat → L5
 | 0 => x
 | n + 1 => timesL (sqL x n) (sqL x n)
theorem sqL_lt {x : L5} (hx : x.lt 18014398509481984) : ∀ n, (sqL x n).lt 18014398509481984
 | 0 => hx
 | n + 1 => timesL_lt (sqL_lt hx n) (sqL_lt hx n)
theorem sqL_val (x : L5) {y : Int} {k : Nat} (h : Cong (x.val : Nat) (y ^ k)) : ∀ n, Cong ((sqL x n).val : Nat) (y ^ (k * 2 ^ n))
 | 0 => by simpa [sqL] using h
 | n + 1 => by
  have ih := sqL_val x h n
  have := (timesL_val (sqL x n) (sqL x n)).trans (ih.mul ih)
  rw [← Int.pow_add] at this
  have e : k * 2 ^ n + k * 2 ^ n = k * 2 ^ (n + 1) := by rw [Nat.pow_succ, ← Nat.mul_assoc]; omega
  rwa [e] at this
def joinL (x : L5) (n : Nat) (y : L5) : L5 := timesL (sqL x n) y
theorem zdq {x y : L5} (n : Nat) (hx : x.lt 18014398509481984) (hy : y.lt 18014398509481984) : (joinL x n y).lt 18014398509481984 := timesL_lt (sqL_lt hx n) hy
theorem zdg {x y : L5} {z : Int} {k l : Nat} (n : Nat) (hx : Cong (x.val : Nat) (z ^ k)) (hy : Cong (y.val : Nat) (z ^ l)) : Cong ((joinL x n y).val : Nat) (z ^ (k * 2 ^ n + l)) := by
 have := (timesL_val (sqL x n) y).trans ((sqL_val x hx n).mul hy)
 rwa [← Int.pow_add] at this
def o2 (x : L5) : L5 := joinL x 1 x
def o4 (x : L5) : L5 := joinL (o2 x) 2 (o2 x)
def o5 (x : L5) : L5 := joinL (o4 x) 1 x
def o10 (x : L5) : L5 := joinL (o5 x) 5 (o5 x)
def o20 (x : L5) : L5 := joinL (o10 x) 10 (o10 x)
def o40 (x : L5) : L5 := joinL (o20 x) 20 (o20 x)
def o50 (x : L5) : L5 := joinL (o40 x) 10 (o10 x)
def o100 (x : L5) : L5 := joinL (o50 x) 50 (o50 x)
def o200 (x : L5) : L5 := joinL (o100 x) 100 (o100 x)
def onesL (x : L5) : L5 := joinL (o200 x) 50 (o50 x)
theorem o2_lt {x : L5} (h : x.lt 18014398509481984) : (o2 x).lt 18014398509481984 := zdq _ h h
theorem o4_lt {x : L5} (h : x.lt 18014398509481984) : (o4 x).lt 18014398509481984 := zdq _ (o2_lt h) (o2_lt h)
theorem o5_lt {x : L5} (h : x.lt 18014398509481984) : (o5 x).lt 18014398509481984 := zdq _ (o4_lt h) h
theorem o10_lt {x : L5} (h : x.lt 18014398509481984) : (o10 x).lt 18014398509481984 := zdq _ (o5_lt h) (o5_lt h)
theorem o20_lt {x : L5} (h : x.lt 18014398509481984) : (o20 x).lt 18014398509481984 := zdq _ (o10_lt h) (o10_lt h)
theorem o40_lt {x : L5} (h : x.lt 18014398509481984) : (o40 x).lt 18014398509481984 := zdq _ (o20_lt h) (o20_lt h)
theorem o50_lt {x : L5} (h : x.lt 18014398509481984) : (o50 x).lt 18014398509481984 := zdq _ (o40_lt h) (o10_lt h)
theorem o100_lt {x : L5} (h : x.lt 18014398509481984) : (o100 x).lt 18014398509481984 := zdq _ (o50_lt h) (o50_lt h)
theorem o200_lt {x : L5} (h : x.lt 18014398509481984) : (o200 x).lt 18014398509481984 := zdq _ (o100_lt h) (o100_lt h)
theorem onesL_lt {x : L5} (h : x.lt 18014398509481984) : (onesL x).lt 18014398509481984 := zdq _ (o200_lt h) (o50_lt h)
theorem pow1 (z : Int) : z = z ^ 1 := by rw [Int.pow_succ, Int.pow_zero, Int.one_mul]
theorem onesL_val {x : L5} {z : Int} (h : Cong (x.val : Nat) z) : Cong ((onesL x).val : Nat) (z ^ (2 ^ 250 - 1)) := by
 have h1 : Cong (x.val : Nat) (z ^ 1) := by rw [← pow1]; exact h
 have h2 : Cong ((o2 x).val : Nat) (z ^ 3) := zdg 1 h1 h1
 have h4 : Cong ((o4 x).val : Nat) (z ^ 15) := zdg 2 h2 h2
 have h5 : Cong ((o5 x).val : Nat) (z ^ 31) := zdg 1 h4 h1
 have h10 : Cong ((o10 x).val : Nat) (z ^ 1023) := zdg 5 h5 h5
 have h20 : Cong ((o20 x).val : Nat) (z ^ 1048575) := zdg 10 h10 h10
 have h40 : Cong ((o40 x).val : Nat) (z ^ 1099511627775) := zdg 20 h20 h20
 have h50 : Cong ((o50 x).val : Nat) (z ^ 1125899906842623) := zdg 10 h40 h10
 have h100 : Cong ((o100 x).val : Nat) (z ^ 1267650600228229401496703205375) := zdg 50 h50 h50
 have h200 : Cong ((o200 x).val : Nat) (z ^ 1606938044258990275541962092341162602522202993782792835301375) := zdg 100 h100 h100
 exact zdg 50 h200 h50
theorem Tryz.arr90 : (Tryz.prog.info? 90).map (·.size) = some 5 := by kernel_rfl
def zero5 : List Value := [.int .u64 0, .int .u64 0, .int .u64 0, .int .u64 0, .int .u64 0]
theorem one5 (a b c d e : Int) : ∀ v ∈ [Value.int .u64 a, .int .u64 b, .int .u64 c, .int .u64 d, .int .u64 e], v.oneCell' = true := by
 intro v hv
 simp only [List.mem_cons, List.not_mem_nil, or_false] at hv
 rcases hv with rfl | rfl | rfl | rfl | rfl <;> rfl
theorem nat51 (a : Nat) : (a : Int) / 2251799813685248 = ((a / 2251799813685248 : Nat) : Int) := by omega
theorem carry0 (a e : Nat) (ha : a < 18446744073709551616) (he : e < 18446744073709551616) : IntKind.u64.wrap (bits .and .u64 (a : Int) 2251799813685247 + IntKind.u64.wrap (19 * ((e : Int) / 2251799813685248))) = ((a % 2251799813685248 + 19 * (e / 2251799813685248) : Nat) : Int) := by
 rw [mask51 a ha, nat51, IntKind.wrap_u64, IntKind.wrap_u64]
 omega
theorem carry1 (a e : Nat) (ha : a < 18446744073709551616) (he : e < 18446744073709551616) : IntKind.u64.wrap (bits .and .u64 (a : Int) 2251799813685247 + (e : Int) / 2251799813685248) = ((a % 2251799813685248 + e / 2251799813685248 : Nat) : Int) := by
 rw [mask51 a ha, nat51, IntKind.wrap_u64]
 omega
theorem carried_any (x : L5) (hx : x.lt 18446744073709551616) (w : World) :
  Calls Tryz.prog 96 #[x.v] w fun e w' => e = .returned (carriedL x).v ∧ Below w.heap.size w w' := by
 obtain ⟨a, b, c, d, e⟩ := x
 obtain ⟨h1, h2, h3, h4, h5⟩ := hx
 have r0 := jh (carry0 a e h1 h5)
 have r1 := jh (carry1 b a h2 h1)
 have r2 := jh (carry1 c b h3 h2)
 have r3 := jh (carry1 d c h4 h3)
 have r4 := jh (carry1 e d h5 h4)
 have HB := jh (boxes2 w [.int .u64 a, .int .u64 b, .int .u64 c, .int .u64 d, .int .u64 e] zero5 90 90)
 clear h1 h2 h3 h4 h5
 unfold L5.v L5.vs
 go_enter Tryz.func96, Tryz.ntmps96
 go_wp2_with (refine zac rfl _ _ _ rfl (w.heap.size + 1) [.int .u64 (IntKind.u64.wrap (bits .and .u64 (a : Int) 2251799813685247 + IntKind.u64.wrap (19 * ((e : Int) / 2251799813685248)))), .int .u64 (IntKind.u64.wrap (bits .and .u64 (b : Int) 2251799813685247 + (a : Int) / 2251799813685248)), .int .u64 (IntKind.u64.wrap (bits .and .u64 (c : Int) 2251799813685247 + (b : Int) / 2251799813685248)), .int .u64 (IntKind.u64.wrap (bits .and .u64 (d : Int) 2251799813685247 + (c : Int) / 2251799813685248)), .int .u64 (IntKind.u64.wrap (bits .and .u64 (e : Int) 2251799813685247 + (d : Int) / 2251799813685248))] rfl rfl _ _ HB.out.2.1 rfl Tryz.arr90 (one5 _ _ _ _ _) ?_; intro w5 hb5 hg5)
 rw [r0.out, r1.out, r2.out, r3.out, r4.out] at hb5
 exact bodyPost_ret (v := (carriedL ⟨a, b, c, d, e⟩).v) (zbk (by rfl) _ (w.heap.size + 1) _ _ _ (by rfl) hb5 Tryz.underlying90 rfl Tryz.arr90) rfl ⟨rfl, zae HB.out.2.2 hg5 (by omega)⟩
def w8 (a b c d e f g h : Nat) : Nat := a + 256 * b + 65536 * c + 16777216 * d + 4294967296 * e + 1099511627776 * f + 281474976710656 * g + 72057594037927936 * h
theorem word_math (a b c d e f g h : Nat) (ha : a < 256) (hb : b < 256) (hc : c < 256) (hd : d < 256) (he : e < 256) (hf : f < 256) (hg : g < 256) (hh : h < 256) :
  bits .or .u64 (bits .or .u64 (bits .or .u64 (bits .or .u64 (bits .or .u64 (bits .or .u64 (bits .or .u64 (a : Int) (IntKind.u64.wrap ((b : Int) * 256))) (IntKind.u64.wrap ((c : Int) * 65536))) (IntKind.u64.wrap ((d : Int) * 16777216))) (IntKind.u64.wrap ((e : Int) * 4294967296))) (IntKind.u64.wrap ((f : Int) * 1099511627776))) (IntKind.u64.wrap ((g : Int) * 281474976710656))) (IntKind.u64.wrap ((h : Int) * 72057594037927936)) = ((w8 a b c d e f g h : Nat) : Int) := by
 have sh : ∀ (k x y : Nat), x < 2 ^ k → 2 ^ k * y + x < 18446744073709551616 → bits .or .u64 (x : Int) (((2 ^ k * y : Nat)) : Int) = ((2 ^ k * y + x : Nat) : Int) := fun k x y hx hs => by
  rw [or64 _ _ (by omega) (by omega), Nat.or_comm, or_sum k x y hx]
 have cv : ∀ (y m : Nat), y * m < 18446744073709551616 → IntKind.u64.wrap ((y : Int) * (m : Int)) = ((m * y : Nat) : Int) := fun y m h => by
  rw [natMul, w64 h, Nat.mul_comm]
 have q1 := cv b 256 (by omega)
 have q2 := cv c 65536 (by omega)
 have q3 := cv d 16777216 (by omega)
 have q4 := cv e 4294967296 (by omega)
 have q5 := cv f 1099511627776 (by omega)
 have q6 := cv g 281474976710656 (by omega)
 have q7 := cv h 72057594037927936 (by omega)
 simp only [Int.cast_ofNat_Int] at q1 q2 q3 q4 q5 q6 q7
 rw [q1, q2, q3, q4, q5, q6, q7]
 rw [sh 8 a b (by omega) (by omega), sh 16 (2 ^ 8 * b + a) c (by omega) (by omega), sh 24 (2 ^ 16 * c + (2 ^ 8 * b + a)) d (by omega) (by omega), sh 32 (2 ^ 24 * d + (2 ^ 16 * c + (2 ^ 8 * b + a))) e (by omega) (by omega),
  sh 40 (2 ^ 32 * e + (2 ^ 24 * d + (2 ^ 16 * c + (2 ^ 8 * b + a)))) f (by omega) (by omega), sh 48 (2 ^ 40 * f + (2 ^ 32 * e + (2 ^ 24 * d + (2 ^ 16 * c + (2 ^ 8 * b + a))))) g (by omega) (by omega), sh 56 (2 ^ 48 * g + (2 ^ 40 * f + (2 ^ 32 * e + (2 ^ 24 * d + (2 ^ 16 * c + (2 ^ 8 * b + a)))))) h (by omega) (by omega)]
 unfold w8
 omega
theorem word_any (p off cap : Nat) (a b c d e f g h : Nat) (ha : a < 256) (hb : b < 256) (hc : c < 256) (hd : d < 256) (he : e < 256) (hf : f < 256) (hg : g < 256) (hh : h < 256) (w : World)
  (c0 : w.cell? ⟨p, off, none⟩ = some (.int .u8 a)) (c1 : w.cell? ⟨p, off + 1, none⟩ = some (.int .u8 b)) (c2 : w.cell? ⟨p, off + 2, none⟩ = some (.int .u8 c)) (c3 : w.cell? ⟨p, off + 3, none⟩ = some (.int .u8 d))
  (c4 : w.cell? ⟨p, off + 4, none⟩ = some (.int .u8 e)) (c5 : w.cell? ⟨p, off + 5, none⟩ = some (.int .u8 f)) (c6 : w.cell? ⟨p, off + 6, none⟩ = some (.int .u8 g)) (c7 : w.cell? ⟨p, off + 7, none⟩ = some (.int .u8 h)) :
  Calls Tryz.prog 101 #[.slice (some ⟨p, off, none⟩) 8 cap] w fun e' w' => e' = .returned (.int .u64 ((w8 a b c d e f g h : Nat) : Int)) ∧ Below w.heap.size w w' := by
 have HM := jh (word_math a b c d e f g h ha hb hc hd he hf hg hh)
 have m1 : IntKind.u64.wrap (a : Int) = a := w64 (by omega)
 have m2 : IntKind.u64.wrap (b : Int) = b := w64 (by omega)
 have m3 : IntKind.u64.wrap (c : Int) = c := w64 (by omega)
 have m4 : IntKind.u64.wrap (d : Int) = d := w64 (by omega)
 have m5 : IntKind.u64.wrap (e : Int) = e := w64 (by omega)
 have m6 : IntKind.u64.wrap (f : Int) = f := w64 (by omega)
 have m7 : IntKind.u64.wrap (g : Int) = g := w64 (by omega)
 have m8 : IntKind.u64.wrap (h : Int) = h := w64 (by omega)
 clear ha hb hc hd he hf hg hh
 go_enter Tryz.func101, Tryz.ntmps101
 go_wp2_with fail
 go_quiet (fail)
 go_wp2_with fail
 go_ret
 refine ⟨?_, below_drewN (Below.refl _ _) _⟩
 rw [← HM.out]
 rfl
def b8 (n : Nat) : List Value := [.int .u8 ((n : Int) % 256), .int .u8 ((n : Int) / 256 % 256), .int .u8 ((n : Int) / 65536 % 256), .int .u8 ((n : Int) / 16777216 % 256), .int .u8 ((n : Int) / 4294967296 % 256), .int .u8 ((n : Int) / 1099511627776 % 256), .int .u8 ((n : Int) / 281474976710656 % 256), .int .u8 ((n : Int) / 72057594037927936 % 256)]
theorem putWord_any (p off cap n : Nat) (cs : List Value) (tb : TypeId) (w : World) (hb : Blk w p cs tb) (hl : off + 8 ≤ cs.length) :
  Calls Tryz.prog 97 #[.slice (some ⟨p, off, none⟩) 8 cap, .int .u64 (n : Int)] w fun e' w' => e' = .returned (.tuple #[]) ∧ Blk w' p (laid cs off (b8 n)) tb ∧ w.grownBy w' (some p) := by
 have HB := jh hb
 have cell : ∀ i, off + i < cs.length → ∃ v, w.cell? ⟨p, off + i, none⟩ = some v := fun i hi => ⟨_, (hb.cell _).trans (List.getElem?_eq_getElem hi)⟩
 obtain ⟨v0, c0⟩ := cell 0 (by omega)
 obtain ⟨v1, c1⟩ := cell 1 (by omega)
 obtain ⟨v2, c2⟩ := cell 2 (by omega)
 obtain ⟨v3, c3⟩ := cell 3 (by omega)
 obtain ⟨v4, c4⟩ := cell 4 (by omega)
 obtain ⟨v5, c5⟩ := cell 5 (by omega)
 obtain ⟨v6, c6⟩ := cell 6 (by omega)
 obtain ⟨v7, c7⟩ := cell 7 (by omega)
 have f0 := hb.free off
 have f1 := hb.free (off + 1)
 have f2 := hb.free (off + 2)
 have f3 := hb.free (off + 3)
 have f4 := hb.free (off + 4)
 have f5 := hb.free (off + 5)
 have f6 := hb.free (off + 6)
 have f7 := hb.free (off + 7)
 rw [Nat.add_zero] at c0
 clear hb hl cell
 go_enter Tryz.func97, Tryz.ntmps97
 go_wp2_with fail
 have h1 := Blk.setCells (b8 n) cs off w HB.out
 have h2 := zcl (b8 n) off w w (c := p) (zdc w _)
 exact bodyPost_end (v := .tuple #[]) (results_none (by rfl) _ _ _) rfl ⟨rfl, h1, h2⟩
def wAt (l : List UInt8) (o : Nat) : Nat := w8 (l.getD o 0).toNat (l.getD (o + 1) 0).toNat (l.getD (o + 2) 0).toNat (l.getD (o + 3) 0).toNat (l.getD (o + 4) 0).toNat (l.getD (o + 5) 0).toNat (l.getD (o + 6) 0).toNat (l.getD (o + 7) 0).toNat
theorem wAt_lt (l : List UInt8) (o : Nat) : wAt l o < 18446744073709551616 := by
 unfold wAt w8
 have h0 := (l.getD o 0).toNat_lt
 have h1 := (l.getD (o + 1) 0).toNat_lt
 have h2 := (l.getD (o + 2) 0).toNat_lt
 have h3 := (l.getD (o + 3) 0).toNat_lt
 have h4 := (l.getD (o + 4) 0).toNat_lt
 have h5 := (l.getD (o + 5) 0).toNat_lt
 have h6 := (l.getD (o + 6) 0).toNat_lt
 have h7 := (l.getD (o + 7) 0).toNat_lt
 omega
theorem word_blk (p off cap : Nat) (l : List UInt8) (tb : TypeId) (w : World) (hb : Blk w p (l.map bval) tb) (hl : l.length = 32) (ho : off + 8 ≤ 32) :
  Calls Tryz.prog 101 #[.slice (some ⟨p, off, none⟩) 8 cap] w fun e' w' => e' = .returned (.int .u64 ((wAt l off : Nat) : Int)) ∧ Below w.heap.size w w' := by
 have c : ∀ i, i < 8 → w.cell? ⟨p, off + i, none⟩ = some (.int .u8 ((l.getD (off + i) 0).toNat : Int)) := fun i hi => (hb.cell _).trans (zbb (by omega))
 exact word_any p off cap _ _ _ _ _ _ _ _ (UInt8.toNat_lt _) (UInt8.toNat_lt _) (UInt8.toNat_lt _) (UInt8.toNat_lt _) (UInt8.toNat_lt _) (UInt8.toNat_lt _) (UInt8.toNat_lt _) (UInt8.toNat_lt _) w (c 0 (by omega)) (c 1 (by omega)) (c 2 (by omega)) (c 3 (by omega)) (c 4 (by omega)) (c 5 (by omega)) (c 6 (by omega)) (c 7 (by omega))
def limbsW (a b c d : Nat) : L5 := ⟨a % 2251799813685248 + 19 * (d / 9223372036854775808), (8192 * (b % 2251799813685248) + a / 2251799813685248) % 2251799813685248, (67108864 * (c % 274877906944) + b / 274877906944) % 2251799813685248, (549755813888 * (d % 33554432) + c / 33554432) % 2251799813685248, d / 4096 % 2251799813685248⟩
theorem limbsW_lt {a b c d : Nat} (hd : d < 18446744073709551616) : (limbsW a b c d).lt 18014398509481984 := by
 refine ⟨?_, ?_, ?_, ?_, ?_⟩ <;> simp only [limbsW] <;> omega
theorem limbsW_val {a b c d : Nat} (ha : a < 18446744073709551616) (hb : b < 18446744073709551616) (hc : c < 18446744073709551616) (hd : d < 18446744073709551616) :
  (limbsW a b c d).val + 57896044618658097711785492504343953926634992332820282019728792003956564819949 * (d / 9223372036854775808) = a + 18446744073709551616 * b + 340282366920938463463374607431768211456 * c + 6277101735386680763835789423207666416102355444464034512896 * d := by
 have e1 : (8192 * (b % 2251799813685248) + a / 2251799813685248) % 2251799813685248 = 8192 * (b % 274877906944) + a / 2251799813685248 := by omega
 have e2 : (67108864 * (c % 274877906944) + b / 274877906944) % 2251799813685248 = 67108864 * (c % 33554432) + b / 274877906944 := by omega
 have e3 : (549755813888 * (d % 33554432) + c / 33554432) % 2251799813685248 = 549755813888 * (d % 4096) + c / 33554432 := by omega
 have e4 : d / 4096 % 2251799813685248 + 2251799813685248 * (d / 9223372036854775808) = d / 4096 := by omega
 simp only [limbsW, L5.val]
 rw [e1, e2, e3]
 omega
def limbsL (l : List UInt8) : L5 := limbsW (wAt l 0) (wAt l 8) (wAt l 16) (wAt l 24)
theorem limbsL_lt (l : List UInt8) : (limbsL l).lt 18014398509481984 := limbsW_lt (wAt_lt l 24)
theorem leN8 (a b c d e f g h : UInt8) (r : List UInt8) : leN (a :: b :: c :: d :: e :: f :: g :: h :: r) = w8 a.toNat b.toNat c.toNat d.toNat e.toNat f.toNat g.toNat h.toNat + 18446744073709551616 * leN r := by
 simp only [leN, w8]
 omega
theorem leN_words (l : List UInt8) (hl : l.length = 32) : leN l = wAt l 0 + 18446744073709551616 * wAt l 8 + 340282366920938463463374607431768211456 * wAt l 16 + 6277101735386680763835789423207666416102355444464034512896 * wAt l 24 := by
 have e : leN l = leN [l.getD 0 0, l.getD 1 0, l.getD 2 0, l.getD 3 0, l.getD 4 0, l.getD 5 0, l.getD 6 0, l.getD 7 0, l.getD 8 0, l.getD 9 0, l.getD 10 0, l.getD 11 0, l.getD 12 0, l.getD 13 0, l.getD 14 0, l.getD 15 0, l.getD 16 0, l.getD 17 0, l.getD 18 0, l.getD 19 0, l.getD 20 0, l.getD 21 0, l.getD 22 0, l.getD 23 0, l.getD 24 0, l.getD 25 0, l.getD 26 0, l.getD 27 0, l.getD 28 0, l.getD 29 0, l.getD 30 0, l.getD 31 0] := by rw [← bytes32 l hl]
 rw [e, leN8, leN8, leN8, leN8]
 have e0 : leN [] = 0 := rfl
 rw [e0]
 show wAt l 0 + 18446744073709551616 * (wAt l 8 + 18446744073709551616 * (wAt l 16 + 18446744073709551616 * (wAt l 24 + 18446744073709551616 * 0))) = _
 generalize wAt l 0 = x0
 generalize wAt l 8 = x1
 generalize wAt l 16 = x2
 generalize wAt l 24 = x3
 omega
theorem limbsL_val (l : List UInt8) (hl : l.length = 32) : Cong ((limbsL l).val : Nat) (leN l : Nat) := by
 have h := limbsW_val (wAt_lt l 0) (wAt_lt l 8) (wAt_lt l 16) (wAt_lt l 24)
 rw [leN_words l hl, ← h]
 refine ⟨-((wAt l 24 / 9223372036854775808 : Nat) : Int), ?_⟩
 have hp : pP = 57896044618658097711785492504343953926634992332820282019728792003956564819949 := rfl
 rw [hp]
 unfold limbsL
 generalize (limbsW (wAt l 0) (wAt l 8) (wAt l 16) (wAt l 24)).val = v
 generalize wAt l 24 / 9223372036854775808 = q
 omega
theorem lw0 (a d : Nat) (ha : a < 18446744073709551616) (hd : d < 18446744073709551616) : IntKind.u64.wrap (bits .and .u64 (a : Int) 2251799813685247 + IntKind.u64.wrap (19 * ((d : Int) / 9223372036854775808))) = ((a % 2251799813685248 + 19 * (d / 9223372036854775808) : Nat) : Int) := by
 rw [mask51 a ha, IntKind.wrap_u64, IntKind.wrap_u64]
 omega
theorem lwm (a b k m r s : Nat) (i : Nat) (ha : a < 18446744073709551616) (hb : b < 18446744073709551616) (hr : r = 2 ^ i) (hx : a / k < r) (hs : r * s = 18446744073709551616) :
  bits .and .u64 (bits .or .u64 ((a / k : Nat) : Int) (IntKind.u64.wrap ((b : Int) * (r : Int)))) 2251799813685247 = (((r * (b % s) + a / k) % 2251799813685248 : Nat) : Int) := by
 have e1 : IntKind.u64.wrap ((b : Int) * (r : Int)) = ((r * (b % s) : Nat) : Int) := by
  rw [natMul, w64m, ← hs, Nat.mul_comm b r, Nat.mul_mod_mul_left]
 have hb2 : b % s < s := Nat.mod_lt _ (by rcases Nat.eq_zero_or_pos s with h | h; (subst h; simp at hs); exact h)
 have hb3 : r * (b % s) + r ≤ 18446744073709551616 := by
  rw [← hs, ← Nat.mul_succ]
  exact Nat.mul_le_mul_left _ hb2
 have h0 : a / k ≤ a := Nat.div_le_self _ _
 have h00 : 0 < r := Nat.lt_of_le_of_lt (Nat.zero_le _) hx
 rw [e1, or64 _ _ (by omega) (by omega), Nat.or_comm]
 rw [hr] at hx hb3 ⊢
 rw [or_sum i _ _ hx, mask51 _ (by omega)]
theorem lw4 (d : Nat) (hd : d < 18446744073709551616) : bits .and .u64 ((d : Int) / 4096) 2251799813685247 = ((d / 4096 % 2251799813685248 : Nat) : Int) := by
 have : (d : Int) / 4096 = ((d / 4096 : Nat) : Int) := by omega
 rw [this, mask51 _ (by omega)]
theorem zed (l : List UInt8) (hl : l.length = 32) (w : World) :
  Calls Tryz.prog 65 #[.agg (l.map bval).toArray] w fun e w' => e = .returned (limbsL l).v ∧ Below w.heap.size w w' := by
 have HL := jh hl
 have HB := jh (boxes2 w (l.map bval) zero5 23 90)
 clear hl
 go_enter Tryz.func65, Tryz.ntmps65
 go_wp2_with fail
 change Code.wp _ _ _ _ ((w.alloc (.cells (l.map bval).toArray 23)).alloc (.cells zero5.toArray 90))
 generalize (w.alloc (.cells (l.map bval).toArray 23)).alloc (.cells zero5.toArray 90) = w0 at *
 obtain ⟨h1, h2, h4⟩ := HB.out
 obtain ⟨A, hA⟩ : ∃ A, A = w.heap.size := ⟨_, rfl⟩
 rw [← hA] at h1 h2 ⊢
 have hA2 : w.heap.size ≤ A := by omega
 have H1 := jh h1
 have H2 := jh h2
 have HE : Hid (Ext w w0) := jh h4
 clear h1 h2 h4 HB hA
 refine zal 12 0 12 rfl (by kernel_rfl) (by kernel_rfl) (fun d v c a w h => by cases d <;> exact h) (by kernel_rfl) ?_
 refine zbf (.slice (some ⟨A, 0, none⟩) 8 32) (by rfl) (fun w hw => by go_simp) ?_
 simp only [Act.put, nrm]
 refine zaj _ _ _ [.slice (some ⟨A, 0, none⟩) 8 32] (.int .u64 ((wAt l 0 : Nat) : Int)) (by rfl) rfl Tryz.call101 rfl (fun w hw => word_blk A 0 32 l 23 w (zaa H1.out hw) HL.out (by omega)) ?_
 simp only [Act.put, nrm]
 refine zbf (.slice (some ⟨A, 8, none⟩) 8 24) (by rfl) (fun w hw => by go_simp) ?_
 simp only [Act.put, nrm]
 refine zaj _ _ _ [.slice (some ⟨A, 8, none⟩) 8 24] (.int .u64 ((wAt l 8 : Nat) : Int)) (by rfl) rfl Tryz.call101 rfl (fun w hw => word_blk A 8 24 l 23 w (zaa H1.out hw) HL.out (by omega)) ?_
 simp only [Act.put, nrm]
 refine zbf (.slice (some ⟨A, 16, none⟩) 8 16) (by rfl) (fun w hw => by go_simp) ?_
 simp only [Act.put, nrm]
 refine zaj _ _ _ [.slice (some ⟨A, 16, none⟩) 8 16] (.int .u64 ((wAt l 16 : Nat) : Int)) (by rfl) rfl Tryz.call101 rfl (fun w hw => word_blk A 16 16 l 23 w (zaa H1.out hw) HL.out (by omega)) ?_
 simp only [Act.put, nrm]
 refine zbf (.slice (some ⟨A, 24, none⟩) 8 8) (by rfl) (fun w hw => by go_simp) ?_
 simp only [Act.put, nrm]
 refine zaj _ _ _ [.slice (some ⟨A, 24, none⟩) 8 8] (.int .u64 ((wAt l 24 : Nat) : Int)) (by rfl) rfl Tryz.call101 rfl (fun w hw => word_blk A 24 8 l 23 w (zaa H1.out hw) HL.out (by omega)) ?_
 simp only [Act.put, nrm]
 refine zbi _ (.int .u64 ((wAt l 0 : Nat) : Int)) (by rfl) rfl rfl ?_
 simp only [Act.put, nrm]
 refine zbi _ (.int .u64 ((wAt l 8 : Nat) : Int)) (by rfl) rfl rfl ?_
 simp only [Act.put, nrm]
 refine zbi _ (.int .u64 ((wAt l 16 : Nat) : Int)) (by rfl) rfl rfl ?_
 simp only [Act.put, nrm]
 refine zbi _ (.int .u64 ((wAt l 24 : Nat) : Int)) (by rfl) rfl rfl ?_
 simp only [Act.put, nrm]
 refine zbg (end_none (by kernel_rfl) (fun w1 hw1 => ?_))
 have H2 := jh (zaa H2.out hw1)
 have HE := jh (HE.out.trans hw1)
 have g0 := wAt_lt l 0
 have g1 := wAt_lt l 8
 have g2 := wAt_lt l 16
 have g3 := wAt_lt l 24
 have HL5 : Hid (limbsL l = limbsW (wAt l 0) (wAt l 8) (wAt l 16) (wAt l 24)) := jh rfl
 clear hw1 H1
 generalize wAt l 0 = x0 at *
 generalize wAt l 8 = x1 at *
 generalize wAt l 16 = x2 at *
 generalize wAt l 24 = x3 at *
 have R0 := jh (lw0 x0 x3 g0 g3)
 have R1 : Hid (bits .and .u64 (bits .or .u64 ((x0 : Int) / 2251799813685248) (IntKind.u64.wrap ((x1 : Int) * 8192))) 2251799813685247 = (((8192 * (x1 % 2251799813685248) + x0 / 2251799813685248) % 2251799813685248 : Nat) : Int)) := jh (lwm x0 x1 2251799813685248 0 8192 2251799813685248 13 g0 g1 rfl (by omega) rfl)
 have R2 : Hid (bits .and .u64 (bits .or .u64 ((x1 : Int) / 274877906944) (IntKind.u64.wrap ((x2 : Int) * 67108864))) 2251799813685247 = (((67108864 * (x2 % 274877906944) + x1 / 274877906944) % 2251799813685248 : Nat) : Int)) := jh (lwm x1 x2 274877906944 0 67108864 274877906944 26 g1 g2 rfl (by omega) rfl)
 have R3 : Hid (bits .and .u64 (bits .or .u64 ((x2 : Int) / 33554432) (IntKind.u64.wrap ((x3 : Int) * 549755813888))) 2251799813685247 = (((549755813888 * (x3 % 33554432) + x2 / 33554432) % 2251799813685248 : Nat) : Int)) := jh (lwm x2 x3 33554432 0 549755813888 33554432 39 g2 g3 rfl (by omega) rfl)
 have R4 := jh (lw4 x3 g3)
 clear g0 g1 g2 g3
 go_wp2_with (refine zac rfl _ _ _ rfl (A + 1) [.int .u64 _, .int .u64 _, .int .u64 _, .int .u64 _, .int .u64 _] rfl rfl _ _ H2.out rfl Tryz.arr90 (one5 _ _ _ _ _) ?_; intro w5 hb5 hg5)
 rw [R0.out, R1.out, R2.out, R3.out, R4.out] at hb5
 exact bodyPost_ret (v := (limbsW x0 x1 x2 x3).v) (zbk (by rfl) _ (A + 1) _ _ _ (by rfl) hb5 Tryz.underlying90 rfl Tryz.arr90) rfl ⟨by rw [HL5.out], zae HE.out hg5 (by omega)⟩
theorem out_steps {x0 x1 x2 x3 x4 r1 r2 r3 r4 r5 c1 c2 c3 c4 c5 y0 y1 y2 y3 y4 : Nat} (b0 : x0 < 2251799813947392) (b1 : x1 < 2251799813947392) (b2 : x2 < 2251799813947392) (b3 : x3 < 2251799813947392) (b4 : x4 < 2251799813947392)
  (h1 : r1 = (19 + x0) / 2251799813685248) (h2 : r2 = (r1 + x1) / 2251799813685248) (h3 : r3 = (r2 + x2) / 2251799813685248) (h4 : r4 = (r3 + x3) / 2251799813685248) (h5 : r5 = (r4 + x4) / 2251799813685248)
  (g1 : c1 = (19 * r5 + x0) / 2251799813685248) (g2 : c2 = (c1 + x1) / 2251799813685248) (g3 : c3 = (c2 + x2) / 2251799813685248) (g4 : c4 = (c3 + x3) / 2251799813685248) (g5 : c5 = (c4 + x4) / 2251799813685248)
  (f0 : y0 = (19 * r5 + x0) % 2251799813685248) (f1 : y1 = (c1 + x1) % 2251799813685248) (f2 : y2 = (c2 + x2) % 2251799813685248) (f3 : y3 = (c3 + x3) % 2251799813685248) (f4 : y4 = (c4 + x4) % 2251799813685248) :
  (L5.mk y0 y1 y2 y3 y4).val = (L5.mk x0 x1 x2 x3 x4).val % 57896044618658097711785492504343953926634992332820282019728792003956564819949 := by
 have e1 : (L5.mk y0 y1 y2 y3 y4).val + 57896044618658097711785492504343953926634992332820282019728792003956564819968 * c5 = 19 * r5 + (L5.mk x0 x1 x2 x3 x4).val := by
  simp only [L5.val]
  omega
 have e2 : (L5.mk y0 y1 y2 y3 y4).val < 57896044618658097711785492504343953926634992332820282019728792003956564819968 := by
  simp only [L5.val]
  omega
 have e3 : 57896044618658097711785492504343953926634992332820282019728792003956564819968 * r5 ≤ 19 + (L5.mk x0 x1 x2 x3 x4).val ∧ 19 + (L5.mk x0 x1 x2 x3 x4).val < 57896044618658097711785492504343953926634992332820282019728792003956564819968 * r5 + 57896044618658097711785492504343953926634992332820282019728792003956564819968 := by
  simp only [L5.val]
  omega
 have e4 : (L5.mk x0 x1 x2 x3 x4).val < 115792089237316195423570985008687907853269984665640564039457584007913129639898 := by
  simp only [L5.val]
  omega
 clear h1 h2 h3 h4 h5 g1 g2 g3 g4 g5 f0 f1 f2 f3 f4 b0 b1 b2 b3 b4
 generalize (L5.mk y0 y1 y2 y3 y4).val = Y at *
 generalize (L5.mk x0 x1 x2 x3 x4).val = X at *
 have e5 : r5 = 0 ∨ r5 = 1 := by omega
 rcases e5 with rfl | rfl <;> omega
theorem b8_bytes (n : Nat) : b8 n = (bytesN 8 n).map bval := by
 have h : ∀ m : Nat, bval (UInt8.ofNat (m % 256)) = .int .u8 ((m % 256 : Nat) : Int) := fun m => by
  unfold bval
  rw [UInt8.toNat_ofNat']
  congr 2
  omega
 have q : ∀ (m : Nat) (z : Int), ((m % 256 : Nat) : Int) = z → bval (UInt8.ofNat (m % 256)) = .int .u8 z := fun m z e => by rw [h, e]
 simp only [b8, bytesN, List.map_cons, List.map_nil]
 rw [q n _ rfl, q (n / 256) ((n : Int) / 256 % 256) (by omega), q (n / 256 / 256) ((n : Int) / 65536 % 256) (by omega), q (n / 256 / 256 / 256) ((n : Int) / 16777216 % 256) (by omega), q (n / 256 / 256 / 256 / 256) ((n : Int) / 4294967296 % 256) (by omega),
  q (n / 256 / 256 / 256 / 256 / 256) ((n : Int) / 1099511627776 % 256) (by omega), q (n / 256 / 256 / 256 / 256 / 256 / 256) ((n : Int) / 281474976710656 % 256) (by omega), q (n / 256 / 256 / 256 / 256 / 256 / 256 / 256) ((n : Int) / 72057594037927936 % 256) (by omega)]
 rfl
theorem bytes_words (y v0 v1 v2 v3 : Nat) (h0 : v0 = y % 18446744073709551616) (h1 : v1 = y / 18446744073709551616 % 18446744073709551616) (h2 : v2 = y / 340282366920938463463374607431768211456 % 18446744073709551616) (h3 : v3 = y / 6277101735386680763835789423207666416102355444464034512896 % 18446744073709551616) :
  b8 v0 ++ b8 v1 ++ b8 v2 ++ b8 v3 = (bytesN 32 y).map bval := by
 have k : (256 : Nat) ^ 8 = 18446744073709551616 := by decide
 have s0 := zds 8 24 y
 have s1 := zds 8 16 (y / 256 ^ 8)
 have s2 := zds 8 8 (y / 256 ^ 8 / 256 ^ 8)
 rw [k] at s0 s1 s2
 have m : ∀ z, bytesN 8 (z % 18446744073709551616) = bytesN 8 z := fun z => by rw [← k]; exact bytesN_mod 8 z
 rw [b8_bytes, b8_bytes, b8_bytes, b8_bytes, h0, h1, h2, h3, m, m, m, m]
 have d1 : y / 18446744073709551616 / 18446744073709551616 = y / 340282366920938463463374607431768211456 := by omega
 have d2 : y / 340282366920938463463374607431768211456 / 18446744073709551616 = y / 6277101735386680763835789423207666416102355444464034512896 := by omega
 rw [d1] at s1 s2
 rw [d2] at s2
 have e : bytesN 32 y = bytesN 8 y ++ (bytesN 8 (y / 18446744073709551616) ++ (bytesN 8 (y / 340282366920938463463374607431768211456) ++ bytesN 8 (y / 6277101735386680763835789423207666416102355444464034512896))) := by
  rw [← s2, ← s1, ← s0]
 rw [e]
 simp
theorem words_of {y0 y1 y2 y3 y4 : Nat} (h0 : y0 < 2251799813685248) (h1 : y1 < 2251799813685248) (h2 : y2 < 2251799813685248) (h3 : y3 < 2251799813685248) (h4 : y4 < 2251799813685248) :
  b8 (2251799813685248 * (y1 % 8192) + y0) ++ b8 (274877906944 * (y2 % 67108864) + y1 / 8192) ++ b8 (33554432 * (y3 % 549755813888) + y2 / 67108864) ++ b8 (4096 * (y4 % 4503599627370496) + y3 / 549755813888) = (bytesN 32 (L5.mk y0 y1 y2 y3 y4).val).map bval := by
 apply bytes_words
 ·simp only [L5.val]; omega
 ·simp only [L5.val]; omega
 ·simp only [L5.val]; omega
 ·simp only [L5.val]; omega
theorem lay_or (a b r s : Nat) (i : Nat) (hr : r = 2 ^ i) (ha : a < r) (hb : b < 18446744073709551616) (hs : r * s = 18446744073709551616) :
  ∃ q : Nat, IntKind.u64.wrap ((b : Int) * (r : Int)) = (q : Int) ∧ bits .or .u64 (a : Int) (q : Int) = ((r * (b % s) + a : Nat) : Int) := by
 have e1 : IntKind.u64.wrap ((b : Int) * (r : Int)) = ((r * (b % s) : Nat) : Int) := by
  rw [natMul, w64m, ← hs, Nat.mul_comm b r, Nat.mul_mod_mul_left]
 have hb2 : b % s < s := Nat.mod_lt _ (by rcases Nat.eq_zero_or_pos s with h | h; (subst h; simp at hs); exact h)
 have hb3 : r * (b % s) + r ≤ 18446744073709551616 := by
  rw [← hs, ← Nat.mul_succ]
  exact Nat.mul_le_mul_left _ hb2
 refine ⟨_, e1, ?_⟩
 rw [or64 _ _ (by omega) (by omega), Nat.or_comm]
 rw [hr] at ha ⊢
 rw [or_sum i _ _ ha]
def rF (xs : List Nat) : Nat → Nat
 | 0 => 19
 | k + 1 => (rF xs k + xs.getD k 0) / 2251799813685248
def cF (xs : List Nat) (c : Nat) : Nat → Nat
 | 0 => c
 | k + 1 => (cF xs c k + xs.getD k 0) / 2251799813685248
def nats (xs : List Nat) : List Value := xs.map fun n : Nat => .int .u64 (n : Int)
theorem nats_get {xs : List Nat} {i : Nat} (h : i < xs.length) : (nats xs)[i]? = some (.int .u64 ((xs.getD i 0 : Nat) : Int)) := by simp [nats, List.getD, h]
theorem nats_set (xs : List Nat) (i n : Nat) : (nats xs).set i (.int .u64 (n : Int)) = nats (xs.set i n) := by
 unfold nats
 rw [List.map_set]
theorem rF_lt (xs : List Nat) (h : ∀ i, xs.getD i 0 < 2251799813947392) : ∀ k, rF xs k ≤ 19
 | 0 => Nat.le_refl _
 | k + 1 => by
  have := rF_lt xs h k
  have := h k
  simp only [rF]
  omega
theorem cF_lt (xs : List Nat) (c : Nat) (hc : c ≤ 361) (h : ∀ i, xs.getD i 0 < 2251799813947392) : ∀ k, cF xs c k ≤ 361
 | 0 => hc
 | k + 1 => by
  have := cF_lt xs c hc h k
  have := h k
  simp only [cF]
  omega
structure OutL (xs : List Nat) (c : Nat) (ys : List Nat) (k : Nat) : Prop where
 len : ys.length = 5
 low : ∀ i, i < k → ys.getD i 0 = (cF xs c i + xs.getD i 0) % 2251799813685248
 high : ∀ i, k ≤ i → ys.getD i 0 = xs.getD i 0
theorem getD_setN {zs : List Nat} {i : Nat} {z : Nat} (h : i < zs.length) : (zs.set i z).getD i 0 = z := by simp [List.getD, h]
theorem zdr {zs : List Nat} {i j : Nat} {z : Nat} (h : i ≠ j) : (zs.set i z).getD j 0 = zs.getD j 0 := by simp [List.getD, List.getElem?_set_ne h]
theorem OutL.step {xs ys : List Nat} {c k : Nat} (h : OutL xs c ys k) (hk : k < 5) : OutL xs c (ys.set k ((cF xs c k + xs.getD k 0) % 2251799813685248)) (k + 1) := by
 obtain ⟨h1, h2, h3⟩ := h
 refine ⟨by simp [h1], fun i hi => ?_, fun i hi => ?_⟩
 ·by_cases e : i = k
  ·subst e
   rw [getD_setN (by omega)]
  ·rw [zdr (by omega)]
   exact h2 i (by omega)
 ·rw [zdr (by omega)]
  exact h3 i (by omega)
theorem list5 (ys : List Nat) (h : ys.length = 5) : ys = [ys.getD 0 0, ys.getD 1 0, ys.getD 2 0, ys.getD 3 0, ys.getD 4 0] := by
 match ys, h with
 | [_, _, _, _, _], _ => rfl
theorem getD_all5 {x : L5} {B : Nat} (h : x.lt B) (hB : 0 < B) : ∀ i, [x.a, x.b, x.c, x.d, x.e].getD i 0 < B := by
 intro i
 obtain ⟨h0, h1, h2, h3, h4⟩ := h
 match i with
 | 0 => exact h0
 | 1 => exact h1
 | 2 => exact h2
 | 3 => exact h3
 | 4 => exact h4
 | n + 5 => simpa [List.getD] using hB
theorem out_done {x : L5} (hx : x.lt 2251799813947392) {ys : List Nat} (h : OutL [x.a, x.b, x.c, x.d, x.e] (19 * rF [x.a, x.b, x.c, x.d, x.e] 5) ys 5) :
  ∃ y : L5, ys = [y.a, y.b, y.c, y.d, y.e] ∧ y.lt 2251799813685248 ∧ y.val = x.val % 57896044618658097711785492504343953926634992332820282019728792003956564819949 := by
 obtain ⟨x0, x1, x2, x3, x4⟩ := x
 obtain ⟨b0, b1, b2, b3, b4⟩ := hx
 have e := list5 ys h.len
 have f0 := h.low 0 (by omega)
 have f1 := h.low 1 (by omega)
 have f2 := h.low 2 (by omega)
 have f3 := h.low 3 (by omega)
 have f4 := h.low 4 (by omega)
 refine ⟨⟨ys.getD 0 0, ys.getD 1 0, ys.getD 2 0, ys.getD 3 0, ys.getD 4 0⟩, e, ?_, ?_⟩
 ·simp only [L5.lt]
  omega
 ·exact out_steps b0 b1 b2 b3 b4 rfl rfl rfl rfl rfl rfl rfl rfl rfl rfl f0 f1 f2 f3 f4
theorem numOf_any (x : L5) (hx : x.lt 18446744073709551616) (w : World) :
  Calls Tryz.prog 63 #[x.v] w fun e w' => e = .returned (numP (x.val : Nat)) ∧ Below w.heap.size w w' := by
 have HC := jh (carried_any x hx)
 have HCL := jh (carriedL_lt x hx)
 have HCV := jh (carriedL_val x)
 have HX := jh hx
 have HB := jh (boxes2 w x.vs (ints .u8 (List.replicate 32 0)) 90 23)
 clear hx
 unfold L5.v
 go_enter Tryz.func63, Tryz.ntmps63
 go_wp2_with (refine zab rfl _ _ rfl w.heap.size rfl _ _ _ _ HB.out.1 Tryz.underlying90 Tryz.arr90 ?_)
 change Calls _ _ _ ((w.alloc (.cells x.vs.toArray 90)).alloc (.cells (ints .u8 (List.replicate 32 0)).toArray 23)) _
 generalize (w.alloc (.cells x.vs.toArray 90)).alloc (.cells (ints .u8 (List.replicate 32 0)).toArray 23) = w0 at *
 obtain ⟨h1, h2, h4⟩ := HB.out
 obtain ⟨A, hA⟩ : ∃ A, A = w.heap.size := ⟨_, rfl⟩
 rw [← hA] at h1 h2 ⊢
 have hA2 : w.heap.size ≤ A := by omega
 have H1 := jh h1
 have H2 := jh h2
 have HE : Hid (Ext w w0) := jh h4
 clear h1 h2 h4 HB hA
 refine (HC.out w0).mono ?_
 rintro e w1 ⟨rfl, hb1⟩
 have H1 := jh (zaa H1.out hb1)
 have H2 := jh (zaa H2.out hb1)
 have HE := jh (HE.out.trans hb1)
 clear hb1 HC
 have HCV2 : Hid (Cong ((carriedL x).val : Nat) (x.val : Nat)) := HCV
 generalize carriedL x = z at *
 go_wp2_with (refine zac rfl _ _ _ rfl A z.vs rfl rfl _ _ H1.out rfl Tryz.arr90 (L5.vs_one _) ?_; intro w2 hb2 hg2)
 have hvs : z.vs = nats [z.a, z.b, z.c, z.d, z.e] := rfl
 rw [hvs] at hb2
 have HXB := jh (getD_all5 HCL.out (by omega))
 have H1 := jh hb2
 have H2 := jh (H2.out.grown hg2 (by simp))
 have HE := jh (zae HE.out hg2 hA2)
 clear hb2 hg2 hvs
 go_loop [3, 10] (fun r i => ∃ k : Nat, k ≤ 5 ∧ i = .int .i64 k ∧ r = .int .u64 ((rF [z.a, z.b, z.c, z.d, z.e] k : Nat) : Int)) (fun _ i => 5 - (intOf i).toNat)
 case atStart => exact ⟨0, by omega, rfl, rfl⟩
 case round =>
  obtain ⟨k, hk, rfl, rfl⟩ := hrel
  have i0' : (0 : Int) ≤ (k : Int) := Int.natCast_nonneg _
  by_cases hlt : k < 5
  ·have i1 : (k : Int) < 5 := by omega
   have e1 := H1.out.cell k
   rw [nats_get (by simpa using hlt)] at e1
   have q1 := rF_lt _ HXB.out k
   have q2 := HXB.out k
   have q3 : (((rF [z.a, z.b, z.c, z.d, z.e] k : Nat) : Int) + (([z.a, z.b, z.c, z.d, z.e].getD k 0 : Nat) : Int)) / 2251799813685248 = ((rF [z.a, z.b, z.c, z.d, z.e] (k + 1) : Nat) : Int) := by
    simp only [rF]
    omega
   obtain ⟨r2, hr2⟩ : ∃ r, r = rF [z.a, z.b, z.c, z.d, z.e] (k + 1) := ⟨_, rfl⟩
   rw [← hr2] at q3
   have HR2 := jh hr2
   clear hr2
   generalize rF [z.a, z.b, z.c, z.d, z.e] k = r1 at *
   generalize [z.a, z.b, z.c, z.d, z.e].getD k 0 = xk at *
   go_wp2_with fail
   go_round
   case rel => exact ⟨k + 1, by omega, by go_num, by rw [HR2.out]⟩
   case measure => simp [intOf]; omega
  ·have hk' : k = 5 := by omega
   subst hk'
   have HR5 := jh (rF_lt _ HXB.out 5)
   have hmul : IntKind.u64.wrap (19 * ((rF [z.a, z.b, z.c, z.d, z.e] 5 : Nat) : Int)) = ((19 * rF [z.a, z.b, z.c, z.d, z.e] 5 : Nat) : Int) := by
    have := HR5.out
    rw [IntKind.wrap_u64]
    omega
   have hc0 : 19 * rF [z.a, z.b, z.c, z.d, z.e] 5 ≤ 361 := by
    have := HR5.out
    omega
   have HDN := jh (fun ys => @out_done z HCL.out ys)
   clear HR5
   generalize rF [z.a, z.b, z.c, z.d, z.e] 5 = r5 at *
   have HC0 := jh hc0
   clear hc0
   generalize 19 * r5 = c0 at *
   go_wp2_with fail
   obtain ⟨xs, hxs⟩ : ∃ xs, xs = [z.a, z.b, z.c, z.d, z.e] := ⟨_, rfl⟩
   have hxl : xs.length = 5 := by rw [hxs]; rfl
   rw [← hxs] at H1 HXB HDN
   have HXS := jh hxs
   have HXL := jh hxl
   clear hxs hxl
   obtain ⟨wo, rfl⟩ : ∃ wo : World, wo = w2 := ⟨_, rfl⟩
   go_loopw [5, 22] (fun c i wr => ∃ (k : Nat) (ys : List Nat), k ≤ 5 ∧ i = .int .i64 k ∧ c = .int .u64 ((cF xs c0 k : Nat) : Int) ∧ OutL xs c0 ys k ∧ Blk wr A (nats ys) 90 ∧ Blk wr (A + 1) (ints .u8 (List.replicate 32 0)) 23 ∧ Ext w wr) (fun _ i _ => 5 - (intOf i).toNat)
   case atStart => exact ⟨0, xs, by omega, rfl, rfl, ⟨HXL.out, fun i hi => by omega, fun i _ => rfl⟩, H1.out, H2.out, HE.out⟩
   case round =>
    clear H1 H2 HE
    obtain ⟨k, ys, hk, rfl, rfl, hout, hb1, hb2, hbe⟩ := hrel
    have i0' : (0 : Int) ≤ (k : Int) := Int.natCast_nonneg _
    have hl5 := hout.len
    by_cases hlt : k < 5
    ·have i1 : (k : Int) < 5 := by omega
     have e1 := hb1.cell k
     rw [nats_get (by omega), hout.high k (Nat.le_refl _)] at e1
     have f1 := hb1.free k
     have q1 := cF_lt xs c0 HC0.out HXB.out k
     have q2 := HXB.out k
     have hst := hout.step hlt
     obtain ⟨c2, hc2⟩ : ∃ r, r = cF xs c0 (k + 1) := ⟨_, rfl⟩
     have hc3 : c2 = (cF xs c0 k + xs.getD k 0) / 2251799813685248 := hc2
     generalize cF xs c0 k = c1 at *
     generalize xs.getD k 0 = xk at *
     have w1 : IntKind.u64.wrap ((c1 : Int) + (xk : Int)) = (c1 : Int) + (xk : Int) := by rw [IntKind.wrap_u64]; omega
     have w2' : ((c1 : Int) + (xk : Int)) = ((c1 + xk : Nat) : Int) := by omega
     generalize hs : c1 + xk = s at *
     have hm : bits .and .u64 (s : Int) 2251799813685247 = ((s % 2251799813685248 : Nat) : Int) := mask51 s (by omega)
     have hd : (s : Int) / 2251799813685248 = (c2 : Int) := by omega
     have w3 : IntKind.u64.wrap (s : Int) = (s : Int) := w64 (by omega)
     generalize s % 2251799813685248 = m at *
     have HST := jh hst
     have HB1 := jh hb1
     have HB2 := jh hb2
     have HBE := jh hbe
     have HC2 := jh hc2
     clear hst hb1 hb2 hbe hc2 hc3 hs hout hl5 q1 q2
     go_wp2_with fail
     go_roundw
     case rel =>
      refine ⟨k + 1, _, by omega, by go_num, by rw [HC2.out], HST.out, ?_, HB2.out.far (by simp) _, HBE.out.setCell hA2 _⟩
      rw [← nats_set]
      exact HB1.out.set k _
     case measure => simp [intOf]; omega
    ·have hk' : k = 5 := by omega
     subst hk'
     obtain ⟨y, rfl, hylt, hyval⟩ := HDN.out ys hout
     obtain ⟨y0, y1, y2, y3, y4⟩ := y
     obtain ⟨g0, g1, g2, g3, g4⟩ := hylt
     simp only at g0 g1 g2 g3 g4
     have HF : Hid (b8 (2251799813685248 * (y1 % 8192) + y0) ++ b8 (274877906944 * (y2 % 67108864) + y1 / 8192) ++ b8 (33554432 * (y3 % 549755813888) + y2 / 67108864) ++ b8 (4096 * (y4 % 4503599627370496) + y3 / 549755813888) = (nb (x.val : Nat)).map bval) := jh (by
      rw [words_of g0 g1 g2 g3 g4, hyval]
      have hq : ((x.val : Nat) : Int) % pP = ((z.val % 57896044618658097711785492504343953926634992332820282019728792003956564819949 : Nat) : Int) := (cong_iff.1 HCV.out).symm
      unfold nb
      rw [hq, Int.toNat_natCast])
     obtain ⟨s0, z0, l0⟩ := lay_or y0 y1 2251799813685248 8192 51 (by decide) g0 (by omega) (by omega)
     obtain ⟨s1, z1, l1⟩ := lay_or (y1 / 8192) y2 274877906944 67108864 38 (by decide) (by omega) (by omega) (by omega)
     obtain ⟨s2, z2, l2⟩ := lay_or (y2 / 67108864) y3 33554432 549755813888 25 (by decide) (by omega) (by omega) (by omega)
     obtain ⟨s3, z3, l3⟩ := lay_or (y3 / 549755813888) y4 4096 4503599627370496 12 (by decide) (by omega) (by omega) (by omega)
     simp only [Int.cast_ofNat_Int] at z0 z1 z2 z3
     generalize hv0 : 2251799813685248 * (y1 % 8192) + y0 = v0 at *
     generalize hv1 : 274877906944 * (y2 % 67108864) + y1 / 8192 = v1 at *
     generalize hv2 : 33554432 * (y3 % 549755813888) + y2 / 67108864 = v2 at *
     generalize hv3 : 4096 * (y4 % 4503599627370496) + y3 / 549755813888 = v3 at *
     have k1 : (y1 : Int) / 8192 = ((y1 / 8192 : Nat) : Int) := by omega
     have k2 : (y2 : Int) / 67108864 = ((y2 / 67108864 : Nat) : Int) := by omega
     have k3 : (y3 : Int) / 549755813888 = ((y3 / 549755813888 : Nat) : Int) := by omega
     generalize y1 / 8192 = q1 at *
     generalize y2 / 67108864 = q2 at *
     generalize y3 / 549755813888 = q3 at *
     have HS0 := jh z0
     have HS1 := jh z1
     have HS2 := jh z2
     have HS3 := jh z3
     have HQ1 := jh k1
     have HQ2 := jh k2
     have HQ3 := jh k3
     have HV0 := jh l0
     have HV1 := jh l1
     have HV2 := jh l2
     have HV3 := jh l3
     have H1 := jh (hb1.alloc (.cells (ints .u8 (List.replicate 32 0)).toArray 23))
     have H2 := jh (hb2.alloc (.cells (ints .u8 (List.replicate 32 0)).toArray 23))
     have HD := jh (Blk.made wr (ints .u8 (List.replicate 32 0)) 23)
     have HE : Hid (Ext w (wr.alloc (.cells (ints .u8 (List.replicate 32 0)).toArray 23))) := jh (Ext.trans hbe (Ext.alloc wr _))
     obtain ⟨D, hD⟩ : ∃ D, D = wr.heap.size := ⟨_, rfl⟩
     have hDA : A + 1 < D := by have := hb2.lt; omega
     rw [← hD] at HD
     clear g0 g1 g2 g3 g4 l0 l1 l2 l3 z0 z1 z2 z3 hv0 hv1 hv2 hv3 k1 k2 k3 hb1 hb2 hbe hout hl5 hyval
     go_wp2_with fail
     rw [← hD]
     change Code.wp _ _ _ _ (wr.alloc (.cells (ints .u8 (List.replicate 32 0)).toArray 23))
     generalize wr.alloc (.cells (ints .u8 (List.replicate 32 0)).toArray 23) = w3 at *
     have HD0 := HD
     clear hD HD
     refine zal 7 1 7 rfl (by kernel_rfl) (by kernel_rfl) (fun d v c a w h => by cases d <;> exact h) (by kernel_rfl) ?_
     refine zbf (.slice (some ⟨D, 0, none⟩) 8 32) (by rfl) (fun w hw => by go_simp) ?_
     simp only [Act.put, nrm]
     refine zak _ _ _ _ A 5 0 (by rfl) rfl rfl rfl Tryz.underlying90 (by omega) (Tryz.sizeOf88) ?_
     simp only [Act.put, nrm]
     refine zao _ _ A 0 (.int .u64 ((y0 : Nat) : Int)) (by rfl) rfl rfl (fun w hw => (zaa H1.out hw).cell 0) (Tryz.isAgg88) ?_
     simp only [Act.put, nrm]
     refine zak _ _ _ _ A 5 1 (by rfl) rfl rfl rfl Tryz.underlying90 (by omega) (Tryz.sizeOf88) ?_
     simp only [Act.put, nrm]
     refine zao _ _ A 1 (.int .u64 ((y1 : Nat) : Int)) (by rfl) rfl rfl (fun w hw => (zaa H1.out hw).cell 1) (Tryz.isAgg88) ?_
     simp only [Act.put, nrm]
     refine zbf (.int .u64 ((s0 : Nat) : Int)) (by rfl) (fun w hw => by have h := HS0.out; go_simp) ?_
     simp only [Act.put, nrm]
     refine det_or _ _ _ _ _ _ _ (v0 : Nat) (by rfl) rfl rfl rfl HV0.out ?_
     simp only [Act.put, nrm]
     refine zbg (zdy (k := 7) rfl (by kernel_rfl) (by kernel_rfl) (by kernel_rfl) rfl (fun w0 hw0 => ?_))
     have HP0 := putWord_any D 0 32 v0 _ _ w0 (zaa HD0.out hw0) (by simp [b8, zad])
     have H1 := jh (zaa H1.out hw0)
     have H2 := jh (zaa H2.out hw0)
     have HE := jh (HE.out.trans hw0)
     clear hw0
     go_simp
     refine HP0.mono ?_
     clear HP0
     rintro e x0 ⟨rfl, hb0, hg0⟩
     have HD1 : Hid (Blk x0 D (b8 v0 ++ ints .u8 (List.replicate 24 0)) 23) := jh hb0
     have H1 := jh (H1.out.grown hg0 (by simp; omega))
     have H2 := jh (H2.out.grown hg0 (by simp; omega))
     have HE := jh (zae HE.out hg0 (by omega))
     clear hb0 hg0
     go_wp2_with fail
     refine zal 8 1 8 rfl (by kernel_rfl) (by kernel_rfl) (fun d v c a w h => by cases d <;> exact h) (by kernel_rfl) ?_
     refine zbf (.slice (some ⟨D, 8, none⟩) 8 24) (by rfl) (fun w hw => by go_simp) ?_
     simp only [Act.put, nrm]
     refine zak _ _ _ _ A 5 1 (by rfl) rfl rfl rfl Tryz.underlying90 (by omega) (Tryz.sizeOf88) ?_
     simp only [Act.put, nrm]
     refine zao _ _ A 1 (.int .u64 ((y1 : Nat) : Int)) (by rfl) rfl rfl (fun w hw => (zaa H1.out hw).cell 1) (Tryz.isAgg88) ?_
     simp only [Act.put, nrm]
     refine zbf (.int .u64 ((q1 : Nat) : Int)) (by rfl) (fun w hw => by have h := HQ1.out; go_simp) ?_
     simp only [Act.put, nrm]
     refine zak _ _ _ _ A 5 2 (by rfl) rfl rfl rfl Tryz.underlying90 (by omega) (Tryz.sizeOf88) ?_
     simp only [Act.put, nrm]
     refine zao _ _ A 2 (.int .u64 ((y2 : Nat) : Int)) (by rfl) rfl rfl (fun w hw => (zaa H1.out hw).cell 2) (Tryz.isAgg88) ?_
     simp only [Act.put, nrm]
     refine zbf (.int .u64 ((s1 : Nat) : Int)) (by rfl) (fun w hw => by have h := HS1.out; go_simp) ?_
     simp only [Act.put, nrm]
     refine det_or _ _ _ _ _ _ _ (v1 : Nat) (by rfl) rfl rfl rfl HV1.out ?_
     simp only [Act.put, nrm]
     refine zbg (zdy (k := 8) rfl (by kernel_rfl) (by kernel_rfl) (by kernel_rfl) rfl (fun w1 hw1 => ?_))
     have HP1 := putWord_any D 8 24 v1 _ _ w1 (zaa HD1.out hw1) (by simp [b8, zad])
     have H1 := jh (zaa H1.out hw1)
     have H2 := jh (zaa H2.out hw1)
     have HE := jh (HE.out.trans hw1)
     clear hw1
     go_simp
     refine HP1.mono ?_
     clear HP1
     rintro e x1 ⟨rfl, hb1, hg1⟩
     have HD2 : Hid (Blk x1 D (b8 v0 ++ b8 v1 ++ ints .u8 (List.replicate 16 0)) 23) := jh hb1
     have H1 := jh (H1.out.grown hg1 (by simp; omega))
     have H2 := jh (H2.out.grown hg1 (by simp; omega))
     have HE := jh (zae HE.out hg1 (by omega))
     clear hb1 hg1
     go_wp2_with fail
     refine zal 8 1 8 rfl (by kernel_rfl) (by kernel_rfl) (fun d v c a w h => by cases d <;> exact h) (by kernel_rfl) ?_
     refine zbf (.slice (some ⟨D, 16, none⟩) 8 16) (by rfl) (fun w hw => by go_simp) ?_
     simp only [Act.put, nrm]
     refine zak _ _ _ _ A 5 2 (by rfl) rfl rfl rfl Tryz.underlying90 (by omega) (Tryz.sizeOf88) ?_
     simp only [Act.put, nrm]
     refine zao _ _ A 2 (.int .u64 ((y2 : Nat) : Int)) (by rfl) rfl rfl (fun w hw => (zaa H1.out hw).cell 2) (Tryz.isAgg88) ?_
     simp only [Act.put, nrm]
     refine zbf (.int .u64 ((q2 : Nat) : Int)) (by rfl) (fun w hw => by have h := HQ2.out; go_simp) ?_
     simp only [Act.put, nrm]
     refine zak _ _ _ _ A 5 3 (by rfl) rfl rfl rfl Tryz.underlying90 (by omega) (Tryz.sizeOf88) ?_
     simp only [Act.put, nrm]
     refine zao _ _ A 3 (.int .u64 ((y3 : Nat) : Int)) (by rfl) rfl rfl (fun w hw => (zaa H1.out hw).cell 3) (Tryz.isAgg88) ?_
     simp only [Act.put, nrm]
     refine zbf (.int .u64 ((s2 : Nat) : Int)) (by rfl) (fun w hw => by have h := HS2.out; go_simp) ?_
     simp only [Act.put, nrm]
     refine det_or _ _ _ _ _ _ _ (v2 : Nat) (by rfl) rfl rfl rfl HV2.out ?_
     simp only [Act.put, nrm]
     refine zbg (zdy (k := 8) rfl (by kernel_rfl) (by kernel_rfl) (by kernel_rfl) rfl (fun w2 hw2 => ?_))
     have HP2 := putWord_any D 16 16 v2 _ _ w2 (zaa HD2.out hw2) (by simp [b8, zad])
     have H1 := jh (zaa H1.out hw2)
     have H2 := jh (zaa H2.out hw2)
     have HE := jh (HE.out.trans hw2)
     clear hw2
     go_simp
     refine HP2.mono ?_
     clear HP2
     rintro e x2 ⟨rfl, hb2, hg2⟩
     have HD3 : Hid (Blk x2 D (b8 v0 ++ b8 v1 ++ b8 v2 ++ ints .u8 (List.replicate 8 0)) 23) := jh hb2
     have H1 := jh (H1.out.grown hg2 (by simp; omega))
     have H2 := jh (H2.out.grown hg2 (by simp; omega))
     have HE := jh (zae HE.out hg2 (by omega))
     clear hb2 hg2
     go_wp2_with fail
     refine zal 8 1 8 rfl (by kernel_rfl) (by kernel_rfl) (fun d v c a w h => by cases d <;> exact h) (by kernel_rfl) ?_
     refine zbf (.slice (some ⟨D, 24, none⟩) 8 8) (by rfl) (fun w hw => by go_simp) ?_
     simp only [Act.put, nrm]
     refine zak _ _ _ _ A 5 3 (by rfl) rfl rfl rfl Tryz.underlying90 (by omega) (Tryz.sizeOf88) ?_
     simp only [Act.put, nrm]
     refine zao _ _ A 3 (.int .u64 ((y3 : Nat) : Int)) (by rfl) rfl rfl (fun w hw => (zaa H1.out hw).cell 3) (Tryz.isAgg88) ?_
     simp only [Act.put, nrm]
     refine zbf (.int .u64 ((q3 : Nat) : Int)) (by rfl) (fun w hw => by have h := HQ3.out; go_simp) ?_
     simp only [Act.put, nrm]
     refine zak _ _ _ _ A 5 4 (by rfl) rfl rfl rfl Tryz.underlying90 (by omega) (Tryz.sizeOf88) ?_
     simp only [Act.put, nrm]
     refine zao _ _ A 4 (.int .u64 ((y4 : Nat) : Int)) (by rfl) rfl rfl (fun w hw => (zaa H1.out hw).cell 4) (Tryz.isAgg88) ?_
     simp only [Act.put, nrm]
     refine zbf (.int .u64 ((s3 : Nat) : Int)) (by rfl) (fun w hw => by have h := HS3.out; go_simp) ?_
     simp only [Act.put, nrm]
     refine det_or _ _ _ _ _ _ _ (v3 : Nat) (by rfl) rfl rfl rfl HV3.out ?_
     simp only [Act.put, nrm]
     refine zbg (zdy (k := 8) rfl (by kernel_rfl) (by kernel_rfl) (by kernel_rfl) rfl (fun w3 hw3 => ?_))
     have HP3 := putWord_any D 24 8 v3 _ _ w3 (zaa HD3.out hw3) (by simp [b8, zad])
     have H1 := jh (zaa H1.out hw3)
     have H2 := jh (zaa H2.out hw3)
     have HE := jh (HE.out.trans hw3)
     clear hw3
     go_simp
     refine HP3.mono ?_
     clear HP3
     rintro e x3 ⟨rfl, hb3, hg3⟩
     have HD4 : Hid (Blk x3 D (b8 v0 ++ b8 v1 ++ b8 v2 ++ b8 v3) 23) := jh hb3
     have H1 := jh (H1.out.grown hg3 (by simp; omega))
     have H2 := jh (H2.out.grown hg3 (by simp; omega))
     have HE := jh (zae HE.out hg3 (by omega))
     clear hb3 hg3
     have hi1 : Hid ((Tryz.prog.info? 23).map (·.size) = some (b8 v0 ++ b8 v1 ++ b8 v2 ++ b8 v3).length) := jh Tryz.arr23
     have ho1 : Hid (∀ v ∈ b8 v0 ++ b8 v1 ++ b8 v2 ++ b8 v3, v.oneCell' = true) := jh (by rw [HF.out]; exact zag _)
     go_wp2_with (first | (refine zab rfl _ _ rfl D rfl _ _ _ _ HD4.out Tryz.underlying23 hi1.out ?_) | (refine zac rfl _ _ _ rfl (A + 1) _ rfl rfl _ _ H2.out rfl hi1.out ho1.out ?_; intro w7 hb7 hg7))
     exact bodyPost_ret (v := .agg (b8 v0 ++ b8 v1 ++ b8 v2 ++ b8 v3).toArray) (zbk (by rfl) _ (A + 1) _ _ _ (by rfl) hb7 Tryz.underlying23 rfl hi1.out) rfl ⟨by rw [HF.out]; rfl, zae HE.out hg7 (by omega)⟩
end Go.Proofs.YtimmnieopifcbaaGreatDoor
