/- Further ends of a drawn region: two variables made in whatever order; a store and an assignment. Nothing here speaks of a program. Each theorem names its own conditions. -/
import Derived.Test.YtjnnhkodkbhbbaaDetSteps
namespace Go.Proofs.Ytjnnhkodkbhbbaa
open Go.RowKit
set_option linter.unusedVariables false

section
variable {P : Program} {ops : Array Oper} {Q : Exit → Act → World → Prop} {md : Region.Mode} {t : Nat} {C : World → Prop} {D : Act → Prop}

theorem run_alloc_zero {o : Oper} {a : Act} {ty : TypeId} {zs : List Value} (ho : o.op = .alloc ty) (hz : ∀ w, (zeroValue ty).run P w = .ok (.agg zs.toArray) w) (w : World) :
    (execOp a.eval o).run P w = .ok (.value (.pointer (some ⟨w.heap.size, 0, none⟩))) (w.alloc (.cells zs.toArray ty)) := by
  unfold execOp
  simp [ho, Instr.alloc, hz, newVar, newRow, Value.cells]

/-- The two stores into two variables that stand apart. -/
theorem two_stores {k : Nat} {o3 o4 : Oper} {listed : Array Bool} {a : Act} {w w' : World} (ty : TypeId) (d1 d2 p q : Nat) (y1 y2 : Operand) (zs vs1 vs2 : List Value) (hk3 : ops[k]? = some o3) (hk4 : ops[k + 1]? = some o4)
    (hr : Region.ready md ops listed = [k]) (hr2 : Region.ready md ops (listed.setIfInBounds k true) = [k + 1]) (hr3 : Region.ready md ops ((listed.setIfInBounds k true).setIfInBounds (k + 1) true) = [])
    (hg3 : o3.guard = none) (hg4 : o4.guard = none) (ho3 : o3.op = .store ty (.tmp d1) y1) (ho4 : o4.op = .store ty (.tmp d2) y2) (hn3 : o3.dst = none) (hn4 : o4.dst = none)
    (hx1 : a.eval (.tmp d1) = .pointer (some ⟨p, 0, none⟩)) (hx2 : a.eval (.tmp d2) = .pointer (some ⟨q, 0, none⟩)) (hy1 : a.eval y1 = .agg vs1.toArray) (hy2 : a.eval y2 = .agg vs2.toArray) (hpq : p ≠ q)
    (hb1 : Blk w' p zs ty) (hb2 : Blk w' q zs ty) (hl1 : vs1.length = zs.length) (hl2 : vs2.length = zs.length) (hi1 : (P.info? ty).map (·.size) = some vs1.length) (hi2 : (P.info? ty).map (·.size) = some vs2.length)
    (h1 : ∀ v ∈ vs1, v.oneCell' = true) (h2 : ∀ v ∈ vs2, v.oneCell' = true) (he : Ext w w') (hp : w.heap.size ≤ p) (hq : w.heap.size ≤ q)
    (h : ∀ w4, Blk w4 p vs1 ty → Blk w4 q vs2 ty → Ext w w4 → Q .normal a w4) : wpAny P md ops Q 2 listed a w' := by
  refine ⟨fun h0 => (by rw [hr] at h0; cases h0), fun i hi => ?_⟩
  rw [hr] at hi
  obtain rfl : i = k := by simpa using hi
  unfold wpOp
  simp only [hk3, Region.wanted, hg3, if_true]
  left
  refine wp_store_blk ty (.tmp d1) y1 ho3 p vs1 hx1 hy1 ty zs hb1 hl1 hi1 h1 fun w2 hb3 hg => ?_
  rw [hn3]
  refine ⟨fun h0 => (by rw [hr2] at h0; cases h0), fun j hj => ?_⟩
  rw [hr2] at hj
  obtain rfl : j = i + 1 := by simpa using hj
  unfold wpOp
  simp only [hk4, Region.wanted, hg4, if_true]
  left
  refine wp_store_blk ty (.tmp d2) y2 ho4 q vs2 hx2 hy2 ty zs (hb2.grown hg (by simpa using hpq)) hl2 hi2 h2 fun w4 hb4 hg4 => ?_
  rw [hn4]
  exact ⟨hr3, h w4 (hb3.grown hg4 (by simpa using fun e => hpq e.symm)) hb4 (ext_grown (ext_grown he hg hp) hg4 hq)⟩

/-- Two variables are made, in whatever order, and a whole array stored into each: the region's end. -/
theorem end_var2 {k : Nat} {o1 o2 o3 o4 : Oper} {listed : Array Bool} {a : Act} {w : World} (ty : TypeId) (d1 d2 : Nat) (y1 y2 : Operand) (zs vs1 vs2 : List Value)
    (hk1 : ops[k]? = some o1) (hk2 : ops[k + 1]? = some o2) (hk3 : ops[k + 2]? = some o3) (hk4 : ops[k + 2 + 1]? = some o4)
    (hr : Region.ready md ops listed = [k, k + 1]) (hr1 : Region.ready md ops (listed.setIfInBounds k true) = [k + 1]) (hr2 : Region.ready md ops (listed.setIfInBounds (k + 1) true) = [k])
    (hr3 : Region.ready md ops ((listed.setIfInBounds k true).setIfInBounds (k + 1) true) = [k + 2]) (hr4 : Region.ready md ops (((listed.setIfInBounds k true).setIfInBounds (k + 1) true).setIfInBounds (k + 2) true) = [k + 2 + 1])
    (hr5 : Region.ready md ops ((((listed.setIfInBounds k true).setIfInBounds (k + 1) true).setIfInBounds (k + 2) true).setIfInBounds (k + 2 + 1) true) = [])
    (hd : doneB t listed = false) (hd1 : doneB t (listed.setIfInBounds k true) = false) (hd2 : doneB t (listed.setIfInBounds (k + 1) true) = false) (hd3 : doneB t ((listed.setIfInBounds k true).setIfInBounds (k + 1) true) = true)
    (hg1 : o1.guard = none) (hg2 : o2.guard = none) (hg3 : o3.guard = none) (hg4 : o4.guard = none) (ho1 : o1.op = .alloc ty) (ho2 : o2.op = .alloc ty) (hd1' : o1.dst = some d1) (hd2' : o2.dst = some d2) (hdd : d1 ≠ d2)
    (hz : ∀ w, (zeroValue ty).run P w = .ok (.agg zs.toArray) w) (ho3 : o3.op = .store ty (.tmp d1) y1) (ho4 : o4.op = .store ty (.tmp d2) y2) (hn3 : o3.dst = none) (hn4 : o4.dst = none) (hs1 : d1 < a.tmps.size) (hs2 : d2 < a.tmps.size)
    (hy1 : ∀ p q, ((a.put (some d1) (.pointer (some ⟨p, 0, none⟩))).put (some d2) (.pointer (some ⟨q, 0, none⟩))).eval y1 = .agg vs1.toArray)
    (hy2 : ∀ p q, ((a.put (some d1) (.pointer (some ⟨p, 0, none⟩))).put (some d2) (.pointer (some ⟨q, 0, none⟩))).eval y2 = .agg vs2.toArray)
    (hl1 : vs1.length = zs.length) (hl2 : vs2.length = zs.length) (hi1 : (P.info? ty).map (·.size) = some vs1.length) (hi2 : (P.info? ty).map (·.size) = some vs2.length) (h1 : ∀ v ∈ vs1, v.oneCell' = true) (h2 : ∀ v ∈ vs2, v.oneCell' = true)
    (h : ∀ p q w', p ≠ q → w.heap.size ≤ p → w.heap.size ≤ q → Blk w' p vs1 ty → Blk w' q vs2 ty → Ext w w' → Q .normal ((a.put (some d1) (.pointer (some ⟨p, 0, none⟩))).put (some d2) (.pointer (some ⟨q, 0, none⟩))) w') :
    wpAnyB P md ops Q t 4 listed a w.drew := by
  have tail : ∀ p q w', Blk w' p zs ty → Blk w' q zs ty → p ≠ q → w.heap.size ≤ p → w.heap.size ≤ q → Ext w w' →
      wpAny P md ops Q 2 ((listed.setIfInBounds k true).setIfInBounds (k + 1) true) ((a.put (some d1) (.pointer (some ⟨p, 0, none⟩))).put (some d2) (.pointer (some ⟨q, 0, none⟩))) w' := by
    intro p q w' b1 b2 hpq hp hq he
    refine two_stores ty d1 d2 p q y1 y2 zs vs1 vs2 hk3 hk4 hr3 hr4 hr5 hg3 hg4 ho3 ho4 hn3 hn4 ?_ ?_ (hy1 p q) (hy2 p q) hpq b1 b2 hl1 hl2 hi1 hi2 h1 h2 he hp hq (fun w4 b3 b4 e4 => h p q w4 hpq hp hq b3 b4 e4)
    · simp [Act.eval, Act.put, hs1, Ne.symm hdd]
    · simp [Act.eval, Act.put, hs2]
  refine ⟨fun h0 => (by rw [hd] at h0; cases h0), fun _ w1 hw1 => ⟨by rw [hr]; simp, fun i hi => ?_⟩⟩
  rw [hr] at hi
  have he1 : Ext w w1 := (Ext.drew w).trans hw1
  simp only [List.mem_cons, List.not_mem_nil, or_false] at hi
  rcases hi with rfl | rfl
  · unfold wpOp
    simp only [hk1, Region.wanted, hg1, if_true]
    left
    unfold Oper.wp
    rw [run_alloc_zero ho1 hz]
    simp only [Oper.upon, hd1']
    refine ⟨Ext.alloc _ _, fun h0 => (by rw [hd1] at h0; cases h0), fun _ w2 hw2 => ⟨by rw [hr1]; simp, fun j hj => ?_⟩⟩
    rw [hr1] at hj
    obtain rfl : j = i + 1 := by simpa using hj
    have hb1 : Blk w2 w1.heap.size zs ty := ext_blk (Blk.made w1 zs ty) hw2
    unfold wpOp
    simp only [hk2, Region.wanted, hg2, if_true]
    left
    unfold Oper.wp
    rw [run_alloc_zero ho2 hz]
    simp only [Oper.upon, hd2']
    refine ⟨Ext.alloc _ _, fun _ w3 hw3 => ?_, fun h0 => (by rw [hd3] at h0; cases h0)⟩
    refine tail _ _ w3 (ext_blk (ext_blk hb1 (Ext.alloc w2 _)) hw3) (ext_blk (Blk.made w2 zs ty) hw3) (by have := hb1.lt; omega) he1.size (Nat.le_trans he1.size (Nat.le_of_lt hb1.lt)) (((he1.trans (Ext.alloc _ _)).trans hw2).trans ((Ext.alloc _ _).trans hw3))
  · unfold wpOp
    simp only [hk2, Region.wanted, hg2, if_true]
    left
    unfold Oper.wp
    rw [run_alloc_zero ho2 hz]
    simp only [Oper.upon, hd2']
    refine ⟨Ext.alloc _ _, fun h0 => (by rw [hd2] at h0; cases h0), fun _ w2 hw2 => ⟨by rw [hr2]; simp, fun j hj => ?_⟩⟩
    rw [hr2] at hj
    obtain rfl : j = k := by simpa using hj
    have hb1 : Blk w2 w1.heap.size zs ty := ext_blk (Blk.made w1 zs ty) hw2
    unfold wpOp
    simp only [hk1, Region.wanted, hg1, if_true]
    left
    unfold Oper.wp
    rw [run_alloc_zero ho1 hz]
    simp only [Oper.upon, hd1']
    rw [Array.setIfInBounds_comm _ _ (by omega : j + 1 ≠ j), Act.put_comm a _ _ (by simpa using fun e => hdd e)]
    refine ⟨Ext.alloc _ _, fun _ w3 hw3 => ?_, fun h0 => (by rw [hd3] at h0; cases h0)⟩
    refine tail _ _ w3 (ext_blk (Blk.made w2 zs ty) hw3) (ext_blk (ext_blk hb1 (Ext.alloc w2 _)) hw3) (by have := hb1.lt; omega) (Nat.le_trans he1.size (Nat.le_of_lt hb1.lt)) he1.size (((he1.trans (Ext.alloc _ _)).trans hw2).trans ((Ext.alloc _ _).trans hw3))

/-- A whole array is stored into what stands, and a value assigned: the region's end. -/
theorem end_set_assign {k : Nat} {o o2 : Oper} {listed : Array Bool} {a : Act} {w : World} (ty tb : TypeId) (x y z : Operand) (d : Nat) (u : Value) (c : Nat) (vs cs : List Value) (hk : ops[k]? = some o) (hk2 : ops[k + 1]? = some o2) (hr : Region.ready md ops listed = [k]) (hr2 : Region.ready md ops (listed.setIfInBounds k true) = [k + 1])
    (hr3 : Region.ready md ops ((listed.setIfInBounds k true).setIfInBounds (k + 1) true) = []) (hd : doneB t listed = true) (hg : o.guard = none) (hg2 : o2.guard = none) (hn : o.dst = none)
    (ho : o.op = .store ty x y) (hx : a.eval x = .pointer (some ⟨c, 0, none⟩)) (hy : a.eval y = .agg vs.toArray) (hb : Blk w c cs tb) (hl : vs.length = cs.length) (hi : (P.info? ty).map (·.size) = some vs.length) (h1 : ∀ v ∈ vs, v.oneCell' = true)
    (ho2 : o2.op = .assign z) (hd2 : o2.dst = some d) (hz : a.eval z = u) (h : ∀ w', Blk w' c vs tb → w.grownBy w' (some c) → Q .normal (a.put (some d) u) w') : wpAnyB P md ops Q t 2 listed a w.drew := by
  refine ⟨fun _ w' hw' => ⟨fun h0 => (by rw [hr] at h0; cases h0), fun i hi' => ?_⟩, fun h0 => (by rw [hd] at h0; cases h0)⟩
  rw [hr] at hi'
  obtain rfl : i = k := by simpa using hi'
  have he : Ext w w' := (Ext.drew w).trans hw'
  unfold wpOp
  simp only [hk, Region.wanted, hg, if_true]
  left
  refine wp_store_blk ty x y ho c vs hx hy tb cs (ext_blk hb he) hl hi h1 fun w2 hb2 hg2' => ?_
  rw [hn]
  refine ⟨fun h0 => (by rw [hr2] at h0; cases h0), fun j hj => ?_⟩
  rw [hr2] at hj
  obtain rfl : j = i + 1 := by simpa using hj
  unfold wpOp
  simp only [hk2, Region.wanted, hg2, if_true]
  left
  unfold Oper.wp execOp
  have hz' : (Act.put a none undef).eval z = u := hz
  simp only [ho2, hz', Sem.run_pure, Oper.upon, hd2]
  exact ⟨hr3, h w2 hb2 (grownBy_trans (grown_of_below he _) hg2')⟩
end

end Go.Proofs.Ytjnnhkodkbhbbaa
