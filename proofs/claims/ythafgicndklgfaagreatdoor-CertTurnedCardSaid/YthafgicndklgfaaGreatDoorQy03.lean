/- Lemmas. -/
import Derived.Test.YthafgicndklgfaaGreatDoorRows
import Derived.Test.YthafgicndklgfaaGreatDoorQy02
namespace Go.Proofs.YthafgicndklgfaaGreatDoor
set_option linter.unusedVariables false
set_option maxRecDepth 100000
set_option maxHeartbeats 32000000
set_option linter.unusedSimpArgs false
open Go.RowKit
section
section
variable {P : Program} {ops : Array Oper} {Q : Exit → Act → World → Prop} {md : Region.Mode} {t : Nat} {C : World → Prop} {D : Act → Prop}
theorem boxes5 (w : World) (a b c d e : List Value) (s t u v y : TypeId) :
  let w5 := ((((w.alloc (.cells a.toArray s)).alloc (.cells b.toArray t)).alloc (.cells c.toArray u)).alloc (.cells d.toArray v)).alloc (.cells e.toArray y)
  Blk w5 w.heap.size a s ∧ Blk w5 (w.heap.size + 1) b t ∧ Blk w5 (w.heap.size + 1 + 1) c u ∧ Blk w5 (w.heap.size + 1 + 1 + 1) d v ∧ Blk w5 (w.heap.size + 1 + 1 + 1 + 1) e y ∧ Below w.heap.size w w5 := by
 obtain ⟨h1, h2, h3, h4, h5⟩ := boxes4 w a b c d s t u v
 refine ⟨h1.alloc _, h2.alloc _, h3.alloc _, h4.alloc _, ?_, h5.alloc (by simp; omega) _⟩
 have := Blk.made ((((w.alloc (.cells a.toArray s)).alloc (.cells b.toArray t)).alloc (.cells c.toArray u)).alloc (.cells d.toArray v)) e y
 simpa using this
def ok3 (md : Region.Mode) (ops : Array Oper) (t : Nat) (listed : Array Bool) (k : Nat) : Bool :=
 (Region.ready md ops listed == [k, k + 1, k + 2]) &&
 (doneB t listed == false) &&
 (Region.ready md ops (listed.setIfInBounds k true) == [k + 1, k + 2]) &&
 (doneB t (listed.setIfInBounds k true) == false) &&
 (Region.ready md ops (listed.setIfInBounds (k + 1) true) == [k, k + 2]) &&
 (doneB t (listed.setIfInBounds (k + 1) true) == false) &&
 (Region.ready md ops (listed.setIfInBounds (k + 2) true) == [k, k + 1]) &&
 (doneB t (listed.setIfInBounds (k + 2) true) == false) &&
 (Region.ready md ops ((listed.setIfInBounds k true).setIfInBounds (k + 1) true) == [k + 2]) &&
 (doneB t ((listed.setIfInBounds k true).setIfInBounds (k + 1) true) == false) &&
 (Region.ready md ops ((listed.setIfInBounds k true).setIfInBounds (k + 2) true) == [k + 1]) &&
 (doneB t ((listed.setIfInBounds k true).setIfInBounds (k + 2) true) == false) &&
 (Region.ready md ops ((listed.setIfInBounds (k + 1) true).setIfInBounds (k + 2) true) == [k]) &&
 (doneB t ((listed.setIfInBounds (k + 1) true).setIfInBounds (k + 2) true) == false) &&
 (Region.ready md ops (((listed.setIfInBounds k true).setIfInBounds (k + 1) true).setIfInBounds (k + 2) true) == [k + 3]) &&
 (doneB t (((listed.setIfInBounds k true).setIfInBounds (k + 1) true).setIfInBounds (k + 2) true) == true) &&
 (Region.ready md ops ((((listed.setIfInBounds k true).setIfInBounds (k + 1) true).setIfInBounds (k + 2) true).setIfInBounds (k + 3) true) == [k + 4]) &&
 (Region.ready md ops (((((listed.setIfInBounds k true).setIfInBounds (k + 1) true).setIfInBounds (k + 2) true).setIfInBounds (k + 3) true).setIfInBounds (k + 4) true) == [k + 5]) &&
 (Region.ready md ops ((((((listed.setIfInBounds k true).setIfInBounds (k + 1) true).setIfInBounds (k + 2) true).setIfInBounds (k + 3) true).setIfInBounds (k + 4) true).setIfInBounds (k + 5) true) == [])
theorem zfd (l : Array Bool) {i j : Nat} (h : i ≠ j) : (l.setIfInBounds i true).setIfInBounds j true = (l.setIfInBounds j true).setIfInBounds i true := Array.setIfInBounds_comm _ _ h
theorem end_var3 {k : Nat} {o1 o2 o3 o4 o5 o6 : Oper} {listed : Array Bool} {a : Act} {w : World} (ty : TypeId) (d1 d2 d3 : Nat) (y1 y2 y3 : Operand) (zs vs1 vs2 vs3 : List Value)
  (hk1 : ops[k]? = some o1) (hk2 : ops[k + 1]? = some o2) (hk3 : ops[k + 2]? = some o3) (hk4 : ops[k + 3]? = some o4) (hk5 : ops[k + 4]? = some o5) (hk6 : ops[k + 5]? = some o6) (hok : ok3 md ops t listed k = true)
  (hg1 : o1.guard = none) (hg2 : o2.guard = none) (hg3 : o3.guard = none) (hg4 : o4.guard = none) (hg5 : o5.guard = none) (hg6 : o6.guard = none)
  (ho1 : o1.op = .alloc ty) (ho2 : o2.op = .alloc ty) (ho3 : o3.op = .alloc ty) (hd1 : o1.dst = some d1) (hd2 : o2.dst = some d2) (hd3 : o3.dst = some d3) (h12 : d1 ≠ d2) (h13 : d1 ≠ d3) (h23 : d2 ≠ d3)
  (hz : ∀ w, (zeroValue ty).run P w = .ok (.agg zs.toArray) w) (ho4 : o4.op = .store ty (.tmp d1) y1) (ho5 : o5.op = .store ty (.tmp d2) y2) (ho6 : o6.op = .store ty (.tmp d3) y3) (hn4 : o4.dst = none) (hn5 : o5.dst = none) (hn6 : o6.dst = none)
  (hs1 : d1 < a.tmps.size) (hs2 : d2 < a.tmps.size) (hs3 : d3 < a.tmps.size)
  (hy1 : ∀ p q r, (((a.put (some d1) (.pointer (some ⟨p, 0, none⟩))).put (some d2) (.pointer (some ⟨q, 0, none⟩))).put (some d3) (.pointer (some ⟨r, 0, none⟩))).eval y1 = .agg vs1.toArray) (hy2 : ∀ p q r, (((a.put (some d1) (.pointer (some ⟨p, 0, none⟩))).put (some d2) (.pointer (some ⟨q, 0, none⟩))).put (some d3) (.pointer (some ⟨r, 0, none⟩))).eval y2 = .agg vs2.toArray) (hy3 : ∀ p q r, (((a.put (some d1) (.pointer (some ⟨p, 0, none⟩))).put (some d2) (.pointer (some ⟨q, 0, none⟩))).put (some d3) (.pointer (some ⟨r, 0, none⟩))).eval y3 = .agg vs3.toArray)
  (hl1 : vs1.length = zs.length) (hl2 : vs2.length = zs.length) (hl3 : vs3.length = zs.length) (hi1 : (P.info? ty).map (·.size) = some vs1.length) (hi2 : (P.info? ty).map (·.size) = some vs2.length) (hi3 : (P.info? ty).map (·.size) = some vs3.length)
  (h1 : ∀ v ∈ vs1, v.oneCell' = true) (h2 : ∀ v ∈ vs2, v.oneCell' = true) (h3 : ∀ v ∈ vs3, v.oneCell' = true)
  (h : ∀ p q r w', p ≠ q → p ≠ r → q ≠ r → w.heap.size ≤ p → w.heap.size ≤ q → w.heap.size ≤ r → Blk w' p vs1 ty → Blk w' q vs2 ty → Blk w' r vs3 ty → Ext w w' → Q .normal (((a.put (some d1) (.pointer (some ⟨p, 0, none⟩))).put (some d2) (.pointer (some ⟨q, 0, none⟩))).put (some d3) (.pointer (some ⟨r, 0, none⟩))) w') :
  wpAnyB P md ops Q t 6 listed a w.drew := by
 unfold ok3 at hok
 simp only [Bool.and_eq_true, beq_iff_eq] at hok
 obtain ⟨⟨⟨⟨⟨⟨⟨⟨⟨⟨⟨⟨⟨⟨⟨⟨⟨⟨c0, c1⟩, c2⟩, c3⟩, c4⟩, c5⟩, c6⟩, c7⟩, c8⟩, c9⟩, c10⟩, c11⟩, c12⟩, c13⟩, c14⟩, c15⟩, c16⟩, c17⟩, c18⟩ := hok
 have tail : ∀ p q r w', Blk w' p zs ty → Blk w' q zs ty → Blk w' r zs ty → p ≠ q → p ≠ r → q ≠ r → w.heap.size ≤ p → w.heap.size ≤ q → w.heap.size ≤ r → Ext w w' →
   wpAny P md ops Q 3 (((listed.setIfInBounds k true).setIfInBounds (k + 1) true).setIfInBounds (k + 2) true) (((a.put (some d1) (.pointer (some ⟨p, 0, none⟩))).put (some d2) (.pointer (some ⟨q, 0, none⟩))).put (some d3) (.pointer (some ⟨r, 0, none⟩))) w' := by
  intro p q r w' b1 b2 b3 hpq hpr hqr hp hq hr he
  refine ⟨fun h0 => (by rw [c14] at h0; cases h0), fun i hi => ?_⟩
  rw [c14] at hi
  obtain rfl : i = k + 3 := by simpa using hi
  unfold wpOp
  simp only [hk4, Region.wanted, hg4, if_true]
  left
  refine zak ty (.tmp d1) y1 ho4 p vs1 (by simp [Act.eval, Act.put, hs1, h12, h13, Ne.symm h12, Ne.symm h13]) (hy1 p q r) ty zs b1 hl1 hi1 h1 fun w2 s1 g1 => ?_
  rw [hn4]
  refine ⟨fun h0 => (by rw [c16] at h0; cases h0), fun j hj => ?_⟩
  rw [c16] at hj
  obtain rfl : j = k + 4 := by simpa using hj
  unfold wpOp
  simp only [hk5, Region.wanted, hg5, if_true]
  left
  refine zak ty (.tmp d2) y2 ho5 q vs2 (by simp [Act.eval, Act.put, hs2, h23, Ne.symm h23]) (hy2 p q r) ty zs (b2.grown g1 (by simpa using hpq)) hl2 hi2 h2 fun w3 s2 g2 => ?_
  rw [hn5]
  refine ⟨fun h0 => (by rw [c17] at h0; cases h0), fun j hj => ?_⟩
  rw [c17] at hj
  obtain rfl : j = k + 5 := by simpa using hj
  unfold wpOp
  simp only [hk6, Region.wanted, hg6, if_true]
  left
  refine zak ty (.tmp d3) y3 ho6 r vs3 (by simp [Act.eval, Act.put, hs3]) (hy3 p q r) ty zs ((b3.grown g1 (by simpa using hpr)).grown g2 (by simpa using hqr)) hl3 hi3 h3 fun w4 s3 g3 => ?_
  rw [hn6]
  refine ⟨c18, h p q r w4 hpq hpr hqr hp hq hr ((s1.grown g2 (by simpa using fun e => hpq e.symm)).grown g3 (by simpa using fun e => hpr e.symm)) (s2.grown g3 (by simpa using fun e => hqr e.symm)) s3 (zab (zab (zab he g1 hp) g2 hq) g3 hr)⟩
 refine ⟨fun h0 => (by rw [c1] at h0; cases h0), fun _ w1 hw1 => ⟨by rw [c0]; simp, fun i hi => ?_⟩⟩
 rw [c0] at hi
 have he1 : Ext w w1 := (Ext.drew w).trans hw1
 simp only [List.mem_cons, q165, or_false] at hi
 rcases hi with hi | hi | hi
 ·rw [hi]
  unfold wpOp
  simp only [hk1, Region.wanted, hg1, if_true]
  left
  unfold Oper.wp
  rw [zaz ho1 hz]
  simp only [Oper.upon, hd1]
  refine ⟨Ext.alloc _ _, fun h0 => (by rw [c3] at h0; cases h0), fun _ w2 hw2 => ⟨by rw [c2]; simp, fun j hj => ?_⟩⟩
  rw [c2] at hj
  simp only [List.mem_cons, q165, or_false] at hj
  have hb1 : Blk w2 w1.heap.size zs ty := zad (Blk.made w1 zs ty) hw2
  rcases hj with hj | hj
  ·rw [hj]
   unfold wpOp
   simp only [hk2, Region.wanted, hg2, if_true]
   left
   unfold Oper.wp
   rw [zaz ho2 hz]
   simp only [Oper.upon, hd2]
   refine ⟨Ext.alloc _ _, fun h0 => (by rw [c9] at h0; cases h0), fun _ w3 hw3 => ⟨by rw [c8]; simp, fun x hx => ?_⟩⟩
   rw [c8] at hx
   rw [show x = k + 2 by simpa using hx]
   have hb2 : Blk w3 w2.heap.size zs ty := zad (Blk.made w2 zs ty) hw3
   unfold wpOp
   simp only [hk3, Region.wanted, hg3, if_true]
   left
   unfold Oper.wp
   rw [zaz ho3 hz]
   simp only [Oper.upon, hd3]
   refine ⟨Ext.alloc _ _, fun _ w4 hw4 => ?_, fun h0 => (by rw [c15] at h0; cases h0)⟩
   have q1 : w1.heap.size < w2.heap.size := hb1.lt
   have q2 : w2.heap.size < w3.heap.size := hb2.lt
   have s1 : w.heap.size ≤ w1.heap.size := he1.size
   have s2 : w.heap.size ≤ w2.heap.size := by omega
   have s3 : w.heap.size ≤ w3.heap.size := by omega
   exact tail _ _ _ w4 (zad (zad (zad (zad hb1 (Ext.alloc w2 _)) hw3) (Ext.alloc w3 _)) hw4) (zad (zad hb2 (Ext.alloc w3 _)) hw4) (zad (Blk.made w3 zs ty) hw4) (by omega) (by omega) (by omega) s1 s2 s3 (((((he1.trans (Ext.alloc _ _)).trans hw2).trans (Ext.alloc _ _)).trans hw3).trans ((Ext.alloc _ _).trans hw4))
  ·rw [hj]
   unfold wpOp
   simp only [hk3, Region.wanted, hg3, if_true]
   left
   unfold Oper.wp
   rw [zaz ho3 hz]
   simp only [Oper.upon, hd3]
   refine ⟨Ext.alloc _ _, fun h0 => (by rw [c11] at h0; cases h0), fun _ w3 hw3 => ⟨by rw [c10]; simp, fun x hx => ?_⟩⟩
   rw [c10] at hx
   rw [show x = k + 1 by simpa using hx]
   have hb2 : Blk w3 w2.heap.size zs ty := zad (Blk.made w2 zs ty) hw3
   unfold wpOp
   simp only [hk2, Region.wanted, hg2, if_true]
   left
   unfold Oper.wp
   rw [zaz ho2 hz]
   simp only [Oper.upon, hd2]
   rw [zfd (listed.setIfInBounds k true) (by omega : k + 2 ≠ k + 1)]
   have ea : (((a.put (some d1) (.pointer (some ⟨w1.heap.size, 0, none⟩))).put (some d3) (.pointer (some ⟨w2.heap.size, 0, none⟩))).put (some d2) (.pointer (some ⟨w3.heap.size, 0, none⟩))) = (((a.put (some d1) (.pointer (some ⟨w1.heap.size, 0, none⟩))).put (some d2) (.pointer (some ⟨w3.heap.size, 0, none⟩))).put (some d3) (.pointer (some ⟨w2.heap.size, 0, none⟩))) := by
    rw [Act.put_comm (a.put (some d1) (.pointer (some ⟨w1.heap.size, 0, none⟩))) (x := some d3) (y := some d2) (.pointer (some ⟨w2.heap.size, 0, none⟩)) (.pointer (some ⟨w3.heap.size, 0, none⟩)) (fun d hd he => by have e1 := Option.some.inj hd; have e2 := Option.some.inj he; exact h23 (e2.trans e1.symm))]
   rw [ea]
   refine ⟨Ext.alloc _ _, fun _ w4 hw4 => ?_, fun h0 => (by rw [c15] at h0; cases h0)⟩
   have q1 : w1.heap.size < w2.heap.size := hb1.lt
   have q2 : w2.heap.size < w3.heap.size := hb2.lt
   have s1 : w.heap.size ≤ w1.heap.size := he1.size
   have s2 : w.heap.size ≤ w2.heap.size := by omega
   have s3 : w.heap.size ≤ w3.heap.size := by omega
   exact tail _ _ _ w4 (zad (zad (zad (zad hb1 (Ext.alloc w2 _)) hw3) (Ext.alloc w3 _)) hw4) (zad (Blk.made w3 zs ty) hw4) (zad (zad hb2 (Ext.alloc w3 _)) hw4) (by omega) (by omega) (by omega) s1 s3 s2 (((((he1.trans (Ext.alloc _ _)).trans hw2).trans (Ext.alloc _ _)).trans hw3).trans ((Ext.alloc _ _).trans hw4))
 ·rw [hi]
  unfold wpOp
  simp only [hk2, Region.wanted, hg2, if_true]
  left
  unfold Oper.wp
  rw [zaz ho2 hz]
  simp only [Oper.upon, hd2]
  refine ⟨Ext.alloc _ _, fun h0 => (by rw [c5] at h0; cases h0), fun _ w2 hw2 => ⟨by rw [c4]; simp, fun j hj => ?_⟩⟩
  rw [c4] at hj
  simp only [List.mem_cons, q165, or_false] at hj
  have hb1 : Blk w2 w1.heap.size zs ty := zad (Blk.made w1 zs ty) hw2
  rcases hj with hj | hj
  ·rw [hj]
   unfold wpOp
   simp only [hk1, Region.wanted, hg1, if_true]
   left
   unfold Oper.wp
   rw [zaz ho1 hz]
   simp only [Oper.upon, hd1]
   rw [zfd listed (by omega : k + 1 ≠ k)]
   refine ⟨Ext.alloc _ _, fun h0 => (by rw [c9] at h0; cases h0), fun _ w3 hw3 => ⟨by rw [c8]; simp, fun x hx => ?_⟩⟩
   rw [c8] at hx
   rw [show x = k + 2 by simpa using hx]
   have hb2 : Blk w3 w2.heap.size zs ty := zad (Blk.made w2 zs ty) hw3
   unfold wpOp
   simp only [hk3, Region.wanted, hg3, if_true]
   left
   unfold Oper.wp
   rw [zaz ho3 hz]
   simp only [Oper.upon, hd3]
   have ea : (((a.put (some d2) (.pointer (some ⟨w1.heap.size, 0, none⟩))).put (some d1) (.pointer (some ⟨w2.heap.size, 0, none⟩))).put (some d3) (.pointer (some ⟨w3.heap.size, 0, none⟩))) = (((a.put (some d1) (.pointer (some ⟨w2.heap.size, 0, none⟩))).put (some d2) (.pointer (some ⟨w1.heap.size, 0, none⟩))).put (some d3) (.pointer (some ⟨w3.heap.size, 0, none⟩))) := by
    rw [Act.put_comm a (x := some d2) (y := some d1) (.pointer (some ⟨w1.heap.size, 0, none⟩)) (.pointer (some ⟨w2.heap.size, 0, none⟩)) (fun d hd he => by have e1 := Option.some.inj hd; have e2 := Option.some.inj he; exact h12 (e2.trans e1.symm))]
   rw [ea]
   refine ⟨Ext.alloc _ _, fun _ w4 hw4 => ?_, fun h0 => (by rw [c15] at h0; cases h0)⟩
   have q1 : w1.heap.size < w2.heap.size := hb1.lt
   have q2 : w2.heap.size < w3.heap.size := hb2.lt
   have s1 : w.heap.size ≤ w1.heap.size := he1.size
   have s2 : w.heap.size ≤ w2.heap.size := by omega
   have s3 : w.heap.size ≤ w3.heap.size := by omega
   exact tail _ _ _ w4 (zad (zad hb2 (Ext.alloc w3 _)) hw4) (zad (zad (zad (zad hb1 (Ext.alloc w2 _)) hw3) (Ext.alloc w3 _)) hw4) (zad (Blk.made w3 zs ty) hw4) (by omega) (by omega) (by omega) s2 s1 s3 (((((he1.trans (Ext.alloc _ _)).trans hw2).trans (Ext.alloc _ _)).trans hw3).trans ((Ext.alloc _ _).trans hw4))
  ·rw [hj]
   unfold wpOp
   simp only [hk3, Region.wanted, hg3, if_true]
   left
   unfold Oper.wp
   rw [zaz ho3 hz]
   simp only [Oper.upon, hd3]
   refine ⟨Ext.alloc _ _, fun h0 => (by rw [c13] at h0; cases h0), fun _ w3 hw3 => ⟨by rw [c12]; simp, fun x hx => ?_⟩⟩
   rw [c12] at hx
   rw [show x = k by simpa using hx]
   have hb2 : Blk w3 w2.heap.size zs ty := zad (Blk.made w2 zs ty) hw3
   unfold wpOp
   simp only [hk1, Region.wanted, hg1, if_true]
   left
   unfold Oper.wp
   rw [zaz ho1 hz]
   simp only [Oper.upon, hd1]
   rw [zfd (listed.setIfInBounds (k + 1) true) (by omega : k + 2 ≠ k)]
   rw [zfd listed (by omega : k + 1 ≠ k)]
   have ea : (((a.put (some d2) (.pointer (some ⟨w1.heap.size, 0, none⟩))).put (some d3) (.pointer (some ⟨w2.heap.size, 0, none⟩))).put (some d1) (.pointer (some ⟨w3.heap.size, 0, none⟩))) = (((a.put (some d1) (.pointer (some ⟨w3.heap.size, 0, none⟩))).put (some d2) (.pointer (some ⟨w1.heap.size, 0, none⟩))).put (some d3) (.pointer (some ⟨w2.heap.size, 0, none⟩))) := by
    rw [Act.put_comm (a.put (some d2) (.pointer (some ⟨w1.heap.size, 0, none⟩))) (x := some d3) (y := some d1) (.pointer (some ⟨w2.heap.size, 0, none⟩)) (.pointer (some ⟨w3.heap.size, 0, none⟩)) (fun d hd he => by have e1 := Option.some.inj hd; have e2 := Option.some.inj he; exact h13 (e2.trans e1.symm))]
    rw [Act.put_comm a (x := some d2) (y := some d1) (.pointer (some ⟨w1.heap.size, 0, none⟩)) (.pointer (some ⟨w3.heap.size, 0, none⟩)) (fun d hd he => by have e1 := Option.some.inj hd; have e2 := Option.some.inj he; exact h12 (e2.trans e1.symm))]
   rw [ea]
   refine ⟨Ext.alloc _ _, fun _ w4 hw4 => ?_, fun h0 => (by rw [c15] at h0; cases h0)⟩
   have q1 : w1.heap.size < w2.heap.size := hb1.lt
   have q2 : w2.heap.size < w3.heap.size := hb2.lt
   have s1 : w.heap.size ≤ w1.heap.size := he1.size
   have s2 : w.heap.size ≤ w2.heap.size := by omega
   have s3 : w.heap.size ≤ w3.heap.size := by omega
   exact tail _ _ _ w4 (zad (Blk.made w3 zs ty) hw4) (zad (zad (zad (zad hb1 (Ext.alloc w2 _)) hw3) (Ext.alloc w3 _)) hw4) (zad (zad hb2 (Ext.alloc w3 _)) hw4) (by omega) (by omega) (by omega) s3 s1 s2 (((((he1.trans (Ext.alloc _ _)).trans hw2).trans (Ext.alloc _ _)).trans hw3).trans ((Ext.alloc _ _).trans hw4))
 ·rw [hi]
  unfold wpOp
  simp only [hk3, Region.wanted, hg3, if_true]
  left
  unfold Oper.wp
  rw [zaz ho3 hz]
  simp only [Oper.upon, hd3]
  refine ⟨Ext.alloc _ _, fun h0 => (by rw [c7] at h0; cases h0), fun _ w2 hw2 => ⟨by rw [c6]; simp, fun j hj => ?_⟩⟩
  rw [c6] at hj
  simp only [List.mem_cons, q165, or_false] at hj
  have hb1 : Blk w2 w1.heap.size zs ty := zad (Blk.made w1 zs ty) hw2
  rcases hj with hj | hj
  ·rw [hj]
   unfold wpOp
   simp only [hk1, Region.wanted, hg1, if_true]
   left
   unfold Oper.wp
   rw [zaz ho1 hz]
   simp only [Oper.upon, hd1]
   rw [zfd listed (by omega : k + 2 ≠ k)]
   refine ⟨Ext.alloc _ _, fun h0 => (by rw [c11] at h0; cases h0), fun _ w3 hw3 => ⟨by rw [c10]; simp, fun x hx => ?_⟩⟩
   rw [c10] at hx
   rw [show x = k + 1 by simpa using hx]
   have hb2 : Blk w3 w2.heap.size zs ty := zad (Blk.made w2 zs ty) hw3
   unfold wpOp
   simp only [hk2, Region.wanted, hg2, if_true]
   left
   unfold Oper.wp
   rw [zaz ho2 hz]
   simp only [Oper.upon, hd2]
   rw [zfd (listed.setIfInBounds k true) (by omega : k + 2 ≠ k + 1)]
   have ea : (((a.put (some d3) (.pointer (some ⟨w1.heap.size, 0, none⟩))).put (some d1) (.pointer (some ⟨w2.heap.size, 0, none⟩))).put (some d2) (.pointer (some ⟨w3.heap.size, 0, none⟩))) = (((a.put (some d1) (.pointer (some ⟨w2.heap.size, 0, none⟩))).put (some d2) (.pointer (some ⟨w3.heap.size, 0, none⟩))).put (some d3) (.pointer (some ⟨w1.heap.size, 0, none⟩))) := by
    rw [Act.put_comm a (x := some d3) (y := some d1) (.pointer (some ⟨w1.heap.size, 0, none⟩)) (.pointer (some ⟨w2.heap.size, 0, none⟩)) (fun d hd he => by have e1 := Option.some.inj hd; have e2 := Option.some.inj he; exact h13 (e2.trans e1.symm))]
    rw [Act.put_comm (a.put (some d1) (.pointer (some ⟨w2.heap.size, 0, none⟩))) (x := some d3) (y := some d2) (.pointer (some ⟨w1.heap.size, 0, none⟩)) (.pointer (some ⟨w3.heap.size, 0, none⟩)) (fun d hd he => by have e1 := Option.some.inj hd; have e2 := Option.some.inj he; exact h23 (e2.trans e1.symm))]
   rw [ea]
   refine ⟨Ext.alloc _ _, fun _ w4 hw4 => ?_, fun h0 => (by rw [c15] at h0; cases h0)⟩
   have q1 : w1.heap.size < w2.heap.size := hb1.lt
   have q2 : w2.heap.size < w3.heap.size := hb2.lt
   have s1 : w.heap.size ≤ w1.heap.size := he1.size
   have s2 : w.heap.size ≤ w2.heap.size := by omega
   have s3 : w.heap.size ≤ w3.heap.size := by omega
   exact tail _ _ _ w4 (zad (zad hb2 (Ext.alloc w3 _)) hw4) (zad (Blk.made w3 zs ty) hw4) (zad (zad (zad (zad hb1 (Ext.alloc w2 _)) hw3) (Ext.alloc w3 _)) hw4) (by omega) (by omega) (by omega) s2 s3 s1 (((((he1.trans (Ext.alloc _ _)).trans hw2).trans (Ext.alloc _ _)).trans hw3).trans ((Ext.alloc _ _).trans hw4))
  ·rw [hj]
   unfold wpOp
   simp only [hk2, Region.wanted, hg2, if_true]
   left
   unfold Oper.wp
   rw [zaz ho2 hz]
   simp only [Oper.upon, hd2]
   rw [zfd listed (by omega : k + 2 ≠ k + 1)]
   refine ⟨Ext.alloc _ _, fun h0 => (by rw [c13] at h0; cases h0), fun _ w3 hw3 => ⟨by rw [c12]; simp, fun x hx => ?_⟩⟩
   rw [c12] at hx
   rw [show x = k by simpa using hx]
   have hb2 : Blk w3 w2.heap.size zs ty := zad (Blk.made w2 zs ty) hw3
   unfold wpOp
   simp only [hk1, Region.wanted, hg1, if_true]
   left
   unfold Oper.wp
   rw [zaz ho1 hz]
   simp only [Oper.upon, hd1]
   rw [zfd (listed.setIfInBounds (k + 1) true) (by omega : k + 2 ≠ k)]
   rw [zfd listed (by omega : k + 1 ≠ k)]
   have ea : (((a.put (some d3) (.pointer (some ⟨w1.heap.size, 0, none⟩))).put (some d2) (.pointer (some ⟨w2.heap.size, 0, none⟩))).put (some d1) (.pointer (some ⟨w3.heap.size, 0, none⟩))) = (((a.put (some d1) (.pointer (some ⟨w3.heap.size, 0, none⟩))).put (some d2) (.pointer (some ⟨w2.heap.size, 0, none⟩))).put (some d3) (.pointer (some ⟨w1.heap.size, 0, none⟩))) := by
    rw [Act.put_comm (a.put (some d3) (.pointer (some ⟨w1.heap.size, 0, none⟩))) (x := some d2) (y := some d1) (.pointer (some ⟨w2.heap.size, 0, none⟩)) (.pointer (some ⟨w3.heap.size, 0, none⟩)) (fun d hd he => by have e1 := Option.some.inj hd; have e2 := Option.some.inj he; exact h12 (e2.trans e1.symm))]
    rw [Act.put_comm a (x := some d3) (y := some d1) (.pointer (some ⟨w1.heap.size, 0, none⟩)) (.pointer (some ⟨w3.heap.size, 0, none⟩)) (fun d hd he => by have e1 := Option.some.inj hd; have e2 := Option.some.inj he; exact h13 (e2.trans e1.symm))]
    rw [Act.put_comm (a.put (some d1) (.pointer (some ⟨w3.heap.size, 0, none⟩))) (x := some d3) (y := some d2) (.pointer (some ⟨w1.heap.size, 0, none⟩)) (.pointer (some ⟨w2.heap.size, 0, none⟩)) (fun d hd he => by have e1 := Option.some.inj hd; have e2 := Option.some.inj he; exact h23 (e2.trans e1.symm))]
   rw [ea]
   refine ⟨Ext.alloc _ _, fun _ w4 hw4 => ?_, fun h0 => (by rw [c15] at h0; cases h0)⟩
   have q1 : w1.heap.size < w2.heap.size := hb1.lt
   have q2 : w2.heap.size < w3.heap.size := hb2.lt
   have s1 : w.heap.size ≤ w1.heap.size := he1.size
   have s2 : w.heap.size ≤ w2.heap.size := by omega
   have s3 : w.heap.size ≤ w3.heap.size := by omega
   exact tail _ _ _ w4 (zad (Blk.made w3 zs ty) hw4) (zad (zad hb2 (Ext.alloc w3 _)) hw4) (zad (zad (zad (zad hb1 (Ext.alloc w2 _)) hw3) (Ext.alloc w3 _)) hw4) (by omega) (by omega) (by omega) s3 s2 s1 (((((he1.trans (Ext.alloc _ _)).trans hw2).trans (Ext.alloc _ _)).trans hw3).trans ((Ext.alloc _ _).trans hw4))
end
end
def ptF (s : ES) : List Value := (nbF s.x).map bval ++ ((nbF s.y).map bval ++ ((nbF s.z).map bval ++ (nbF s.t).map bval))
theorem zdf (f : Fp) : ((nbF f).map bval).length = 32 := by rw [q101, zae]
theorem zat (s : ES) : (ptF s).length = 128 := by simp [ptF, zae]
theorem zcf (s : ES) : ∀ v ∈ ptF s, v.oneCell' = true := by
 intro v hv
 simp only [ptF, List.mem_append] at hv
 rcases hv with h | h | h | h <;> exact zaf _ v h
theorem Tryz.arr85 : (Tryz.prog.info? 85).map (·.size) = some 128 := by kernel_rfl
theorem zar (s : ES) : (Tryz.prog.info? 85).map (·.size) = some (ptF s).length := by rw [zat]; exact Tryz.arr85
theorem fill_q {place : Nat → Option (Nat × Nat)} (p0 : place 0 = some (0, 32)) (p1 : place 1 = some (32, 32)) (p2 : place 2 = some (64, 32)) (p3 : place 3 = some (96, 32)) (zero : Array Value) (hz : zero.size = 128) {a b c d : List Value} (ha : a.length = 32) (hb : b.length = 32) (hc : c.length = 32) (hd : d.length = 32) :
  Instr.fill place zero [(0, .agg a.toArray), (1, .agg b.toArray), (2, .agg c.toArray), (3, .agg d.toArray)] = some (a ++ (b ++ (c ++ d))).toArray := by
 obtain ⟨l, hl⟩ : ∃ l : List Value, zero = l.toArray ∧ l.length = 128 := ⟨zero.toList, by simp, by simpa using hz⟩
 obtain ⟨rfl, hl⟩ := hl
 have e0 : l = [] ++ (l.take 32 ++ ((l.drop 32).take 32 ++ ((l.drop 64).take 32 ++ l.drop 96))) := by
  rw [q118]
  have h3 : (l.drop 64).take 32 ++ l.drop 96 = l.drop 64 := by rw [show l.drop 96 = (l.drop 64).drop 32 by rw [q166], q117]
  have h2 : (l.drop 32).take 32 ++ l.drop 64 = l.drop 32 := by rw [show l.drop 64 = (l.drop 32).drop 32 by rw [q166], q117]
  rw [h3, h2, q117]
 have l0 : (l.take 32).length = 32 := by simp [hl]
 have l1 : ((l.drop 32).take 32).length = 32 := by simp [hl]
 have l2 : ((l.drop 64).take 32).length = 32 := by simp [hl]
 have l3 : (l.drop 96).length = 32 := by simp [hl]
 generalize l.take 32 = q0 at *
 generalize (l.drop 32).take 32 = q1 at *
 generalize (l.drop 64).take 32 = q2 at *
 generalize l.drop 96 = q3 at *
 rw [e0, zfj (off := 0) (n := 32) p0 rfl l0 ha]
 rw [show ([] : List Value) ++ (a ++ (q1 ++ (q2 ++ q3))) = a ++ (q1 ++ (q2 ++ q3)) from rfl, zfj (off := 32) (n := 32) p1 ha l1 hb]
 rw [show a ++ (b ++ (q2 ++ q3)) = (a ++ b) ++ (q2 ++ q3) by simp, zfj (off := 64) (n := 32) p2 (by simp [ha, hb]) l2 hc]
 rw [show (a ++ b) ++ (c ++ q3) = (a ++ b ++ c) ++ (q3 ++ []) by simp, zfj (off := 96) (n := 32) p3 (by simp [ha, hb, hc]) l3 hd]
 rw [Instr.fill]
 simp
theorem build_ptF (s : ES) (w : World) : (Instr.build 85 #[(0, .agg ((nbF s.x).map bval).toArray), (1, .agg ((nbF s.y).map bval).toArray), (2, .agg ((nbF s.z).map bval).toArray), (3, .agg ((nbF s.t).map bval).toArray)]).run Tryz.prog w = .ok (.agg (ptF s).toArray) w := by
 refine run_build w _ _ _ ?_
 have e := fill_q (place := fun i => (#[(0, 32), (32, 32), (64, 32), (96, 32)] : Array (Nat × Nat))[i]?) rfl rfl rfl rfl (ints .u8 (List.replicate 128 0)).toArray (by simp [zaa]) (zdf s.x) (zdf s.y) (zdf s.z) (zdf s.t)
 refine Eq.trans ?_ e
 kernel_rfl
theorem nbF_zero : nbF 0 = zer := by decide +kernel
theorem nbF_one : nbF 1 = smL 1 := by decide +kernel
theorem build_nbz (w : World) : (Instr.build 23 #[]).run Tryz.prog w = .ok (.agg ((nbF 0).map bval).toArray) w := by rw [nbF_zero]; exact build_zer w
theorem build_nbo (w : World) : (Instr.build 23 #[(0, .int .u8 1)]).run Tryz.prog w = .ok (.agg ((nbF 1).map bval).toArray) w := by rw [nbF_one]; exact build_one w
theorem nbF_four : nbF 4 = smL 4 := by decide +kernel
theorem nbF_five : nbF 5 = smL 5 := by decide +kernel
theorem build_nb4 (w : World) : (Instr.build 23 #[(0, .int .u8 4)]).run Tryz.prog w = .ok (.agg ((nbF 4).map bval).toArray) w := by
 rw [nbF_four]
 simp [Instr.build, q109]
 rfl
theorem build_nb5 (w : World) : (Instr.build 23 #[(0, .int .u8 5)]).run Tryz.prog w = .ok (.agg ((nbF 5).map bval).toArray) w := by
 rw [nbF_five]
 simp [Instr.build, q109]
 rfl
theorem ptF_x {w : World} {c o : Nat} {s : ES} (h : w.rangeAt c o (ptF s)) : w.rangeAt c o ((nbF s.x).map bval) := rng_lo h
theorem ptF_y {w : World} {c o k : Nat} {s : ES} (h : w.rangeAt c o (ptF s)) (hk : o + 32 = k) : w.rangeAt c k ((nbF s.y).map bval) := rng_lo (rng_hi h (zdf _) hk)
theorem ptF_z {w : World} {c o k : Nat} {s : ES} (h : w.rangeAt c o (ptF s)) (hk : o + 64 = k) : w.rangeAt c k ((nbF s.z).map bval) := rng_lo (rng_hi (rng_hi h (zdf _) rfl) (zdf _) (by omega))
theorem ptF_t {w : World} {c o k : Nat} {s : ES} (h : w.rangeAt c o (ptF s)) (hk : o + 96 = k) : w.rangeAt c k ((nbF s.t).map bval) := rng_hi (rng_hi (rng_hi h (zdf _) rfl) (zdf _) rfl) (zdf _) (by omega)
def zq : List Value := ints .u8 (List.replicate 128 0)
theorem zq_length : zq.length = 128 := by simp [zq, zaa]
theorem pkL_nbF (b : Bool) (f g : Fp) : pkL b (nbF f) (nbF g) = nbF (pkF b f g) := by cases b <;> rfl
theorem ptF_none : ptF ⟨0, 0, 0, 0⟩ = zq := by
 unfold ptF
 simp only [nbF_zero]
 rfl
theorem build_none (w : World) : (Instr.build 85 #[]).run Tryz.prog w = .ok (.agg (ptF ⟨0, 0, 0, 0⟩).toArray) w := by
 rw [ptF_none]
 refine run_build w _ _ _ ?_
 kernel_rfl
theorem build_esz (w : World) : (Instr.build 85 #[(1, .agg ((nbF 1).map bval).toArray), (2, .agg ((nbF 1).map bval).toArray)]).run Tryz.prog w = .ok (.agg (ptF esZero).toArray) w := by
 have e1 : ptF esZero = zer.map bval ++ ((smL 1).map bval ++ ((smL 1).map bval ++ zer.map bval)) := by
  show (nbF 0).map bval ++ ((nbF 1).map bval ++ ((nbF 1).map bval ++ (nbF 0).map bval)) = _
  rw [nbF_zero, nbF_one]
 rw [e1, nbF_one]
 refine run_build w _ _ _ ?_
 kernel_rfl
def GlobC (w : World) : Prop := w.rangeAt 3 0 ((nbF dF).map bval)
theorem nbd_cons : ∃ v vs, (nbF dF).map bval = v :: vs := by
 cases h : (nbF dF).map bval with
 | nil => have := zdf dF; rw [h] at this; simp at this
 | cons v vs => exact ⟨v, vs, rfl⟩
theorem GlobC.ext {w w' : World} (h : GlobC w) (hb : Ext w w') : GlobC w' := by
 obtain ⟨v, vs, e⟩ := nbd_cons
 unfold GlobC at h ⊢
 rw [e] at h ⊢
 exact zfi h hb
theorem csum_eq (p q : ES) : (⟨((p.y + p.x) * (q.y + q.x) - (p.y - p.x) * (q.y - q.x)) * (p.z * q.z + p.z * q.z - (dF * (p.t * q.t) + dF * (p.t * q.t))), ((p.y + p.x) * (q.y + q.x) + (p.y - p.x) * (q.y - q.x)) * (p.z * q.z + p.z * q.z + (dF * (p.t * q.t) + dF * (p.t * q.t))), (p.z * q.z + p.z * q.z + (dF * (p.t * q.t) + dF * (p.t * q.t))) * (p.z * q.z + p.z * q.z - (dF * (p.t * q.t) + dF * (p.t * q.t))), ((p.y + p.x) * (q.y + q.x) - (p.y - p.x) * (q.y - q.x)) * ((p.y + p.x) * (q.y + q.x) + (p.y - p.x) * (q.y - q.x))⟩ : ES) = p.sum q := by
 have e : dF * (p.t * q.t) + dF * (p.t * q.t) = p.t * q.t * (dF + dF) := by generalize dF = d at *; grind
 rw [e]
 unfold ES.sum
 simp only
 congr 1
 exact Fin.mul_comm _ _
def overE (x bx y b : Fp) : ES := ⟨x * b, y * bx, bx * b, x * y⟩
section
def rootR (x : Int) : Int := if nb (x ^ pE * x ^ pE) = nb x then x ^ pE else x ^ pE * sm1
def rootB (x : Int) : Bool := decide (nb (rootR x * rootR x) = nb x)
def rootN (x : Int) : List UInt8 :=
 if rootB x then (if (decide (((nb (rootR x)).getD 0 0).toNat % 2 = 1)) then (nb (((leN zer : Nat) : Int) - ((leN (nb (rootR x)) : Nat) : Int))) else (nb (rootR x))) else zer
theorem rootB_true {x : Int} (h : nb (rootR x * rootR x) = nb x) : rootB x = true := decide_eq_true h
theorem rootB_false {x : Int} (h : ¬ nb (rootR x * rootR x) = nb x) : rootB x = false := decide_eq_false h
theorem rootN_true {x : Int} (h : nb (rootR x * rootR x) = nb x) : (if (decide (((nb (rootR x)).getD 0 0).toNat % 2 = 1)) then (nb (((leN zer : Nat) : Int) - ((leN (nb (rootR x)) : Nat) : Int))) else (nb (rootR x))) = rootN x := by
 unfold rootN
 rw [rootB_true h]
 rfl
theorem rootN_false {x : Int} (h : ¬ nb (rootR x * rootR x) = nb x) : rootN x = zer := by
 unfold rootN
 rw [rootB_false h]
 rfl
theorem rootB_true2 {x r : Int} (e : r = rootR x) (h : nb (r * r) = nb x) : rootB x = true := by subst e; exact rootB_true h
theorem rootB_false2 {x r : Int} (e : r = rootR x) (h : ¬ nb (r * r) = nb x) : rootB x = false := by subst e; exact rootB_false h
theorem rootN_true2 {x r : Int} (e : r = rootR x) (h : nb (r * r) = nb x) : (if (decide (((nb r).getD 0 0).toNat % 2 = 1)) then (nb (((leN zer : Nat) : Int) - ((leN (nb r) : Nat) : Int))) else (nb r)) = rootN x := by subst e; exact rootN_true h
theorem rootN_false2 {x r : Int} (e : r = rootR x) (h : ¬ nb (r * r) = nb x) : rootN x = zer := by subst e; exact rootN_false h
theorem pick_length (b : Bool) (x y : Int) : (if b then (nb x) else (nb y)).length = 32 := by cases b <;> exact zbr _
theorem rootN_length (x : Int) : (rootN x).length = 32 := by
 unfold rootN
 cases rootB x
 ·exact zdx
 ·exact pick_length _ _ _
theorem zer_zero32 : zer.map bval = zero32 := by
 unfold zero32 zer ints
 rw [List.map_replicate, List.map_replicate]
 rfl
theorem rootN_size (x : Int) : (Tryz.prog.info? 23).map (·.size) = some ((rootN x).map bval).length := by rw [q101, rootN_length]; exact Tryz.arr23
theorem pick_size (b : Bool) (x y : Int) : (Tryz.prog.info? 23).map (·.size) = some ((if b then (nb x) else (nb y)).map bval).length := by rw [q101, pick_length]; exact Tryz.arr23
theorem pick_len (b : Bool) (x y : Int) : ((if b then (nb x) else (nb y)).map bval).length = zero32.length := by rw [q101, pick_length]; rfl
section
variable {P : Program}
theorem byte_odd {o : Oper} {a : Act} {ty rt : TypeId} {x y : Operand} {w : World} (n : Nat) (ho : o.op = .binOp .eql ty x y rt) (hx : a.eval x = .int .u8 ((n % 2 : Nat) : Int)) (hy : a.eval y = .int .u8 1) :
  (execOp a.eval o).run P w = .ok (.value (.bool (decide (n % 2 = 1)))) w := by
 have h : (((n % 2 : Nat) : Int) == 1) = decide (n % 2 = 1) := by
  rw [Bool.eq_iff_iff, beq_iff_eq, decide_eq_true_iff]
  omega
 unfold execOp
 simp only [ho, hx, hy]
 rw [← h]
 rfl
end
end
theorem reighth_any (w : World) : Calls Tryz.prog 109 #[] w fun e w' => e = .returned (.agg ((bytesN 32 pE).map bval).toArray) ∧ Below w.heap.size w w' := by
 have HBX := jh (boxes2 w (ints .u8 (List.replicate 32 0)) (ints .u8 (List.replicate 32 0)) 23 23)
 go_enter Tryz.func109, Tryz.ntmps109
 go_wp2_with fail
 change Code.wp _ _ _ _ ((w.alloc (.cells (ints .u8 (List.replicate 32 0)).toArray 23)).alloc (.cells (ints .u8 (List.replicate 32 0)).toArray 23))
 generalize (w.alloc (.cells (ints .u8 (List.replicate 32 0)).toArray 23)).alloc (.cells (ints .u8 (List.replicate 32 0)).toArray 23) = w0 at *
 obtain ⟨h1, h2, h3⟩ := HBX.out
 obtain ⟨A, hA⟩ : ∃ A, A = w.heap.size := ⟨_, rfl⟩
 rw [← hA] at h1 h2 ⊢
 have hA2 : w.heap.size ≤ A := by omega
 have H1 := jh h1
 have H2 := jh h2
 have H3 := jh h3
 clear h1 h2 h3 HBX hA
 go_loopw [2] (fun i wr => ∃ (k : Nat) (bs : List Int), k ≤ 32 ∧ i = .int .i64 k ∧ FullB bs k ∧ Blk wr A (ints .u8 (List.replicate 32 0)) 23 ∧ Blk wr (A + 1) (ints .u8 bs) 23 ∧ Below w.heap.size w wr) (fun i _ => 32 - (intOf i).toNat)
 case atStart => exact ⟨0, _, by omega, rfl, ⟨rfl, fun j hj => by omega⟩, H1.out, H2.out, H3.out⟩
 case round =>
  clear H1 H2 H3
  obtain ⟨k, bs, hk, rfl, hfb, hb1, hb2, hbel⟩ := hrel
  have i0' : (0 : Int) ≤ (k : Int) := Int.natCast_nonneg _
  have hlen := hfb.len
  by_cases hlt : k < 32
  ·have i1 : (k : Int) < 32 := by omega
   have e1 := hb2.cell k
   rw [zan (by omega)] at e1
   have f1 := hb2.free k
   have hst := hfb.step hlt
   have HST := jh hst
   have H1 := jh hb1
   have H2 := jh hb2
   have H3 := jh hbel
   clear hb1 hb2 hbel hfb hst hlen
   go_wp2_with fail
   go_roundw
   case rel =>
    refine ⟨k + 1, _, by omega, by go_num, HST.out, H1.out.far (by simp) _, ?_, H3.out.setCell (by simp; omega) _⟩
    rw [← zbq]
    exact H2.out.set k _
   case measure => simp [intOf]; omega
  ·have hk' : k = 32 := by omega
   subst hk'
   have hd := hfb.done
   subst hd
   have e1 : wr.cell? ⟨A + 1, 31, none⟩ = some (.int .u8 255) := by rw [hb2.cell 31]; rfl
   have e2 : wr.cell? ⟨A + 1, 0, none⟩ = some (.int .u8 255) := by rw [hb2.cell 0]; rfl
   have f1 := hb2.free 31
   have f2 := hb2.free 0
   have hb3 := (hb2.set 0 (.int .u8 254)).set 31 (.int .u8 15)
   have hb4 := (hb1.far (a := ⟨A + 1, 0, none⟩) (by simp) (.int .u8 254)).far (a := ⟨A + 1, 31, none⟩) (by simp) (.int .u8 15)
   rw [zbq, zbq] at hb3
   have e3 : ints .u8 (((List.replicate 32 255).set 0 254).set 31 15) = (bytesN 32 pE).map bval := by kernel_rfl
   rw [e3] at hb3
   have hb5 : Below w.heap.size w ((wr.setCell ⟨A + 1, 0, none⟩ (.int .u8 254)).setCell ⟨A + 1, 31, none⟩ (.int .u8 15)) := (hbel.setCell (by simp; omega) _).setCell (by simp; omega) _
   have H3 := jh hb3
   have H4 := jh hb4
   have H5 := jh hb5
   have hi1 : Hid ((Tryz.prog.info? 23).map (·.size) = some ((bytesN 32 pE).map bval).length) := jh (by rw [q101, zav]; exact Tryz.arr23)
   have hl1 : Hid (((bytesN 32 pE).map bval).length = (ints .u8 (List.replicate 32 0)).length) := jh (by rw [q101, zav]; rfl)
   clear hb1 hb2 hb3 hb4 hb5 hbel hfb hlen e3
   go_wp2_with (first | (refine slb (A + 1) H3.out q100 hi1.out ?_) | (refine ssb A _ H4.out hl1.out hi1.out (zaf _) ?_; intro w7 hb7 hg7))
   exact bodyPost_ret (v := .agg ((bytesN 32 pE).map bval).toArray) (zbc (by rfl) _ A _ _ _ _ (by rfl) hb7 q100 hi1.out) rfl ⟨rfl, H5.out.grown hg7 H5.out.size (fun r hr => by cases hr; omega)⟩
theorem leN_p2 : leN (bytesN 32 pE) = pE := by decide +kernel
theorem leN_eighth : leN (bytesN 32 pE) = pE := by decide +kernel
theorem rsame_any (u v : Value) (x y : Int) (w : World) (hu : IsEl u x) (hv : IsEl v y) :
  Calls Tryz.prog 110 #[u, v] w fun e w' => e = .returned (.bool (decide (nb x = nb y))) ∧ Below w.heap.size w w' := by
 have HU := jh hu
 have HV := jh hv
 obtain ⟨xs, rfl, la, ba, qa, va⟩ := hu
 obtain ⟨ys, rfl, lb, bb, qb, vb⟩ := hv
 have HI1 : Hid ((Tryz.prog.info? 68).map (·.size) = some (ints .i64 xs).length) := jh (by rw [zaa, la]; exact Tryz.arr68)
 have HI2 : Hid ((Tryz.prog.info? 68).map (·.size) = some (ints .i64 ys).length) := jh (by rw [zaa, lb]; exact Tryz.arr68)
 have HB := jh (boxes2 w (ints .i64 xs) (ints .i64 ys) 68 68)
 clear la ba va lb bb vb
 go_enter Tryz.func110, Tryz.ntmps110
 go_wp2_with fail
 change Code.wp _ _ _ _ ((w.alloc (.cells (ints .i64 xs).toArray 68)).alloc (.cells (ints .i64 ys).toArray 68))
 generalize (w.alloc (.cells (ints .i64 xs).toArray 68)).alloc (.cells (ints .i64 ys).toArray 68) = w0 at *
 obtain ⟨h1, h2, hE⟩ := HB.out
 obtain ⟨A, hA⟩ : ∃ A, A = w.heap.size := ⟨_, rfl⟩
 rw [← hA] at h1 h2 ⊢
 have hA2 : w.heap.size ≤ A := by omega
 have H1 := jh h1
 have H2 := jh h2
 have HE : Hid (Ext w w0) := jh hE
 clear h1 h2 hE HB
 by_cases he : nb x = nb y
 ·skip
  refine zbb (by kernel_rfl) (by kernel_rfl) ?_
  refine zax _ _ A (ints .i64 xs) _ (by rfl) rfl rfl (fun w hw => zaq H1.out hw) q103 rfl HI1.out ?_
  simp only [nm]
  refine sdc [.agg (ints .i64 xs).toArray] (.agg ((nb x).map bval).toArray) Tryz.call68 (fun w hw => rout_any _ x w HU.out) ?_
  simp only [nm]
  refine zax _ _ (A + 1) (ints .i64 ys) _ (by rfl) rfl rfl (fun w hw => zaq H2.out hw) q103 rfl HI2.out ?_
  simp only [nm]
  refine sdc [.agg (ints .i64 ys).toArray] (.agg ((nb y).map bval).toArray) Tryz.call68 (fun w hw => rout_any _ y w HV.out) ?_
  simp only [nm]
  refine det_eql _ _ _ _ _ _ 32 _ (nb x) (nb y) true (by rfl) rfl (Or.inl ⟨rfl, decide_eq_true he⟩) q100 q111 zch zby zcb rfl rfl (zbr _) (zbr _) ?_
  simp only [nm]
  refine zbi _ (.bool true) (by rfl) rfl rfl ?_
  simp only [nm]
  refine zao (fun w9 hw9 => ?_)
  go_wp2_with fail
  go_ret
  exact ⟨by rw [decide_eq_true he]; rfl, HE.out.trans hw9⟩
 ·skip
  refine zbb (by kernel_rfl) (by kernel_rfl) ?_
  refine zax _ _ A (ints .i64 xs) _ (by rfl) rfl rfl (fun w hw => zaq H1.out hw) q103 rfl HI1.out ?_
  simp only [nm]
  refine sdc [.agg (ints .i64 xs).toArray] (.agg ((nb x).map bval).toArray) Tryz.call68 (fun w hw => rout_any _ x w HU.out) ?_
  simp only [nm]
  refine zax _ _ (A + 1) (ints .i64 ys) _ (by rfl) rfl rfl (fun w hw => zaq H2.out hw) q103 rfl HI2.out ?_
  simp only [nm]
  refine sdc [.agg (ints .i64 ys).toArray] (.agg ((nb y).map bval).toArray) Tryz.call68 (fun w hw => rout_any _ y w HV.out) ?_
  simp only [nm]
  refine det_eql _ _ _ _ _ _ 32 _ (nb x) (nb y) false (by rfl) rfl (Or.inl ⟨rfl, decide_eq_false he⟩) q100 q111 zch zby zcb rfl rfl (zbr _) (zbr _) ?_
  simp only [nm]
  refine zbi _ (.bool false) (by rfl) rfl rfl ?_
  simp only [nm]
  refine zao (fun w9 hw9 => ?_)
  go_wp2_with fail
  go_ret
  exact ⟨by rw [decide_eq_false he]; rfl, HE.out.trans hw9⟩
def RTL : List Int := [41136, 18958, 6951, 50414, 58488, 44335, 6150, 12099, 55207, 15867, 153, 11085, 57099, 20417, 9344, 11139]
theorem rt_el : IsEl (.agg (ints .i64 RTL).toArray) sm1 := ⟨RTL, rfl, rfl, by decide +kernel, 0, by decide +kernel⟩
def Glob (w : World) : Prop := w.rangeAt 6 0 (ints .i64 RTL)
theorem Glob.ext {w w' : World} (h : Glob w) (hb : Ext w w') : Glob w' := zfi h hb
theorem rroot_any (u : Value) (x : Int) (w : World) (hu : IsEl u x) (hG : Glob w) :
  Calls Tryz.prog 79 #[u] w fun e w' => (∃ r, e = .returned (.tuple #[r, .bool (rootB x)]) ∧ IsEl r (rootR x)) ∧ Below w.heap.size w w' := by
 have HUE := jh hu
 obtain ⟨xs, rfl, la, ba, qa, va⟩ := hu
 have HU := jh q103
 have HI1 : Hid ((Tryz.prog.info? 68).map (·.size) = some (ints .i64 xs).length) := jh (by rw [zaa, la]; exact Tryz.arr68)
 have HGW := jh hG
 have HBX := jh (boxes2 w (ints .i64 xs) (ints .i64 (List.replicate 16 0)) 68 68)
 clear la ba va hG
 go_enter Tryz.func79, Tryz.ntmps79
 go_wp2_with fail
 change Code.wp _ _ _ _ ((w.alloc (.cells (ints .i64 xs).toArray 68)).alloc (.cells (ints .i64 (List.replicate 16 0)).toArray 68))
 generalize (w.alloc (.cells (ints .i64 xs).toArray 68)).alloc (.cells (ints .i64 (List.replicate 16 0)).toArray 68) = w0 at *
 obtain ⟨h1, h2, h4⟩ := HBX.out
 obtain ⟨A, hA⟩ : ∃ A, A = w.heap.size := ⟨_, rfl⟩
 rw [← hA] at h1 h2 ⊢
 have hA2 : w.heap.size ≤ A := by omega
 have H1 := jh h1
 have H3 := jh h2
 have H4 : Hid (Ext w w0) := jh h4
 clear h1 h2 h4 HBX hA
 go_cut [4] from 5 to 22 (fun v wc => ∃ (c : Nat) (zs : List Int), v = .pointer (some ⟨c, 0, none⟩) ∧ A + 1 < c ∧ Blk wc c (ints .i64 zs) 68 ∧ zs.length = 16 ∧ IsEl (.agg (ints .i64 zs).toArray) (x ^ pE) ∧ Ext w0 wc)
 case first =>
  have B0 : Below w0.heap.size w0 w0.drew := (Below.refl _ _).drew
  refine wp_region_held_drew (S := fun w' => w'.rangeAt A 0 (ints .i64 xs)) (by kernel_rfl) (zah H1.out B0) (fun hW => ?_)
  refine tke 0 (.agg (ints .i64 xs).toArray) rfl (sld A 0 (fun w h => h) HU.out HI1.out) hW ?_
  try simp only [nm]
  refine wpAnyH_ready (rs := [1, 3]) (by kernel_rfl) (by simp) (AllReadyH.cons rfl (fun K hK => ?_) (AllReadyH.cons rfl (fun K hK => ?_) AllReadyH.nil))
  ·skip
   go_simp
   refine (reighth_any _).mono ?_
   rintro e w1 ⟨rfl, b1⟩
   have B1 := B0.trans (b1.mono B0.size)
   refine hK.out _ _ (zah H1.out B1) (fun hW => ?_)
   clear hK K hW
   try simp only [nm]
   refine wpAnyH_ready (rs := [2, 3]) (by kernel_rfl) (by simp) (AllReadyH.cons rfl (fun K hK => ?_) (AllReadyH.cons rfl (fun K hK => ?_) AllReadyH.nil))
   ·skip
    go_simp
    refine (rpow_any _ _ (bytesN 32 pE) _ HUE.out (zav 32 pE)).mono ?_
    rintro e w2 ⟨r2, rfl, e2, b2⟩
    rw [leN_eighth] at e2
    obtain ⟨zs, rfl, lz, bz, qz, vz⟩ := id e2
    have B2 := B1.trans (b2.mono B1.size)
    refine hK.out _ _ (zah H1.out B2) (fun hW => ?_)
    clear hK K hW
    try simp only [nm]
    refine rdy 3 rfl fun K hK => ?_
    go_simp
    have hMD := Blk.made w2 (ints .i64 (List.replicate 16 0)) 68
    have BA := B2.trans ((Ext.alloc w2 (.cells (ints .i64 (List.replicate 16 0)).toArray 68)).mono B2.size)
    refine hK.out _ _ (zah H1.out BA) (fun hW => ?_)
    clear hK K hW
    try simp only [nm]
    refine rdy 4 rfl fun K hK => ?_
    rw [if_pos (by rfl)]
    have hi2 : (Tryz.prog.info? 68).map (·.size) = some (ints .i64 zs).length := by rw [zaa, lz]; exact Tryz.arr68
    have hlt : A + 1 < w2.heap.size := by have := (bl_blk H3.out B2).lt; simpa using this
    have hMD2 := hMD
    refine zak _ _ _ rfl w2.heap.size (ints .i64 zs) rfl rfl _ _ hMD2 (by rw [zaa, zaa, lz]; rfl) hi2 (zaj _ _) ?_
    intro w5 hb5 hg5
    refine hK.out _ _ ((bl_blk H1.out BA).grown hg5 (by simp; omega)).range (fun hW => ?_)
    clear hK K hW
    refine dne ?_
    have BE : Ext w0 w5 := Below.grown BA hg5 BA.size (fun r hr => by cases hr; have := H3.out.lt; have := B2.size; omega)
    go_wp2_with fail
    go_meet
    exact ⟨_, zs, rfl, hlt, hb5, lz, e2, BE⟩
   ·skip
    go_simp
    have hMD := Blk.made w1 (ints .i64 (List.replicate 16 0)) 68
    have BA := B1.trans ((Ext.alloc w1 (.cells (ints .i64 (List.replicate 16 0)).toArray 68)).mono B1.size)
    refine hK.out _ _ (zah H1.out BA) (fun hW => ?_)
    clear hK K hW
    try simp only [nm]
    refine rdy 2 rfl fun K hK => ?_
    go_simp
    refine (rpow_any _ _ (bytesN 32 pE) _ HUE.out (zav 32 pE)).mono ?_
    rintro e w2 ⟨r2, rfl, e2, b2⟩
    rw [leN_eighth] at e2
    obtain ⟨zs, rfl, lz, bz, qz, vz⟩ := id e2
    have B2 := BA.trans (b2.mono BA.size)
    refine hK.out _ _ (zah H1.out B2) (fun hW => ?_)
    clear hK K hW
    try simp only [nm]
    refine rdy 4 rfl fun K hK => ?_
    rw [if_pos (by rfl)]
    have hi2 : (Tryz.prog.info? 68).map (·.size) = some (ints .i64 zs).length := by rw [zaa, lz]; exact Tryz.arr68
    have hlt : A + 1 < w1.heap.size := by have := (bl_blk H3.out B1).lt; simpa using this
    have hMD2 := bl_blk hMD b2
    refine zak _ _ _ rfl w1.heap.size (ints .i64 zs) rfl rfl _ _ hMD2 (by rw [zaa, zaa, lz]; rfl) hi2 (zaj _ _) ?_
    intro w5 hb5 hg5
    refine hK.out _ _ ((bl_blk H1.out B2).grown hg5 (by simp; omega)).range (fun hW => ?_)
    clear hK K hW
    refine dne ?_
    have BE : Ext w0 w5 := Below.grown B2 hg5 B2.size (fun r hr => by cases hr; have := H3.out.lt; have := B1.size; omega)
    go_wp2_with fail
    go_meet
    exact ⟨_, zs, rfl, hlt, hb5, lz, e2, BE⟩
  ·skip
   go_simp
   have hMD := Blk.made w0.drew (ints .i64 (List.replicate 16 0)) 68
   have BA := B0.trans ((Ext.alloc w0.drew (.cells (ints .i64 (List.replicate 16 0)).toArray 68)).mono B0.size)
   refine hK.out _ _ (zah H1.out BA) (fun hW => ?_)
   clear hK K hW
   try simp only [nm]
   refine rdy 1 rfl fun K hK => ?_
   go_simp
   refine (reighth_any _).mono ?_
   rintro e w1 ⟨rfl, b1⟩
   have B1 := BA.trans (b1.mono BA.size)
   refine hK.out _ _ (zah H1.out B1) (fun hW => ?_)
   clear hK K hW
   try simp only [nm]
   refine rdy 2 rfl fun K hK => ?_
   go_simp
   refine (rpow_any _ _ (bytesN 32 pE) _ HUE.out (zav 32 pE)).mono ?_
   rintro e w2 ⟨r2, rfl, e2, b2⟩
   rw [leN_eighth] at e2
   obtain ⟨zs, rfl, lz, bz, qz, vz⟩ := id e2
   have B2 := B1.trans (b2.mono B1.size)
   refine hK.out _ _ (zah H1.out B2) (fun hW => ?_)
   clear hK K hW
   try simp only [nm]
   refine rdy 4 rfl fun K hK => ?_
   rw [if_pos (by rfl)]
   have hi2 : (Tryz.prog.info? 68).map (·.size) = some (ints .i64 zs).length := by rw [zaa, lz]; exact Tryz.arr68
   have hlt : A + 1 < w0.heap.size := by have := (bl_blk H3.out (Below.refl w0.heap.size w0)).lt; simpa using this
   have hMD2 := bl_blk (bl_blk hMD b1) b2
   refine zak _ _ _ rfl w0.heap.size (ints .i64 zs) rfl rfl _ _ hMD2 (by rw [zaa, zaa, lz]; rfl) hi2 (zaj _ _) ?_
   intro w5 hb5 hg5
   refine hK.out _ _ ((bl_blk H1.out B2).grown hg5 (by simp; omega)).range (fun hW => ?_)
   clear hK K hW
   refine dne ?_
   have BE : Ext w0 w5 := Below.grown B2 hg5 B2.size (fun r hr => by cases hr; have := H3.out.lt; have := (Below.refl w0.heap.size w0).size; omega)
   go_wp2_with fail
   go_meet
   exact ⟨_, zs, rfl, hlt, hb5, lz, e2, BE⟩
 case rest =>
  obtain ⟨c, zs, rfl, hc, hbc, lz, ez, hE⟩ := hcut
  obtain ⟨y, hy⟩ : ∃ y, y = x ^ pE := ⟨_, rfl⟩
  have HY1 : Hid (nb (y * y) = nb x → rootR x = y) := jh (fun h => by unfold rootR; rw [← hy, if_pos h])
  have HY2 : Hid (¬ nb (y * y) = nb x → rootR x = y * sm1) := jh (fun h => by unfold rootR; rw [← hy, if_neg h])
  rw [← hy] at ez
  have HZE := jh ez
  have HC := jh hbc
  have HA1 := xb H1 hE
  have HA2 := xb H3 hE
  have HEW : Hid (Ext w wc) := jh (H4.out.trans hE)
  have HI2 : Hid ((Tryz.prog.info? 68).map (·.size) = some (ints .i64 zs).length) := jh (by rw [zaa, lz]; exact Tryz.arr68)
  have HIR : Hid ((Tryz.prog.info? 68).map (·.size) = some (ints .i64 RTL).length) := jh (by rw [zaa]; exact Tryz.arr68)
  have HLZ := jh lz
  clear hbc lz ez hE hy H1 H3 H4
  by_cases hsq : nb (y * y) = nb x
  ·skip
   go_wp2_with fail
   have B0 : Below wc.heap.size wc wc.drew := (Below.refl _ _).drew
   refine wp_region_held_drew (S := fun w' => w'.rangeAt A 0 (ints .i64 xs) ∧ w'.rangeAt c 0 (ints .i64 zs)) (by kernel_rfl) ⟨zah HA1.out B0, zah HC.out B0⟩ (fun hW => ?_)
   refine tke 0 (.agg (ints .i64 zs).toArray) rfl (sld c 0 (fun w h => h.2) HU.out HI2.out) hW ?_
   try simp only [nm]
   refine tke 1 (.agg (ints .i64 zs).toArray) rfl (sld c 0 (fun w h => h.2) HU.out HI2.out) hW ?_
   try simp only [nm]
   refine tke 3 (.agg (ints .i64 xs).toArray) rfl (sld A 0 (fun w h => h.1) HU.out HI1.out) hW ?_
   try simp only [nm]
   refine rdy 2 rfl fun K hK => ?_
   go_simp
   refine (rmul_any _ _ _ _ _ HZE.out HZE.out).mono ?_
   rintro e m1 ⟨r1, rfl, e1, b1⟩
   have B1 := B0.trans (b1.mono B0.size)
   refine hK.out _ _ ⟨zah HA1.out B1, zah HC.out B1⟩ (fun hW => ?_)
   clear hK K hW
   try simp only [nm]
   refine rdy 4 rfl fun K hK => ?_
   go_simp
   refine (rsame_any _ _ _ _ _ e1 HUE.out).mono ?_
   rintro e m2 ⟨he, b2⟩
   rw [decide_eq_true hsq] at he
   subst he
   have B2 := B1.trans (b2.mono B1.size)
   refine hK.out _ _ ⟨zah HA1.out B2, zah HC.out B2⟩ (fun hW => ?_)
   clear hK K hW
   try simp only [nm]
   refine dne ?_
   have HC := xb HC B2
   have HA1 := xb HA1 B2
   have HA2 := xb HA2 B2
   have HEW := xt HEW B2
   clear b1 b2 B0 B1 B2 e1
   have HSQ := jh hsq
   clear hsq
   go_wp2_with (first | (refine slb c HC.out q103 HI2.out ?_) | (refine ssb (A + 1) _ HA2.out (by rw [zaa, zaa, HLZ.out]; rfl) HI2.out (zaj _ _) ?_; intro w5 hb5 hg5))
   exact bodyPost_ret (zai (p := 2) (u := 3) (by rfl) _ (A + 1) _ _ _ (by rfl) hb5 q103 rfl HI2.out) rfl ⟨⟨_, by rw [rootB_true2 (HY1.out HSQ.out).symm HSQ.out]; rfl, by rw [HY1.out HSQ.out]; exact HZE.out⟩, zab HEW.out hg5 (by omega)⟩
  ·skip
   go_wp2_with fail
   have B0 : Below wc.heap.size wc wc.drew := (Below.refl _ _).drew
   refine wp_region_held_drew (S := fun w' => w'.rangeAt A 0 (ints .i64 xs) ∧ w'.rangeAt c 0 (ints .i64 zs)) (by kernel_rfl) ⟨zah HA1.out B0, zah HC.out B0⟩ (fun hW => ?_)
   refine tke 0 (.agg (ints .i64 zs).toArray) rfl (sld c 0 (fun w h => h.2) HU.out HI2.out) hW ?_
   try simp only [nm]
   refine tke 1 (.agg (ints .i64 zs).toArray) rfl (sld c 0 (fun w h => h.2) HU.out HI2.out) hW ?_
   try simp only [nm]
   refine tke 3 (.agg (ints .i64 xs).toArray) rfl (sld A 0 (fun w h => h.1) HU.out HI1.out) hW ?_
   try simp only [nm]
   refine rdy 2 rfl fun K hK => ?_
   go_simp
   refine (rmul_any _ _ _ _ _ HZE.out HZE.out).mono ?_
   rintro e m1 ⟨r1, rfl, e1, b1⟩
   have B1 := B0.trans (b1.mono B0.size)
   refine hK.out _ _ ⟨zah HA1.out B1, zah HC.out B1⟩ (fun hW => ?_)
   clear hK K hW
   try simp only [nm]
   refine rdy 4 rfl fun K hK => ?_
   go_simp
   refine (rsame_any _ _ _ _ _ e1 HUE.out).mono ?_
   rintro e m2 ⟨he, b2⟩
   rw [decide_eq_false hsq] at he
   subst he
   have B2 := B1.trans (b2.mono B1.size)
   refine hK.out _ _ ⟨zah HA1.out B2, zah HC.out B2⟩ (fun hW => ?_)
   clear hK K hW
   try simp only [nm]
   refine dne ?_
   have HC := xb HC B2
   have HA1 := xb HA1 B2
   have HA2 := xb HA2 B2
   have HEW := xt HEW B2
   clear b1 b2 B0 B1 B2 e1
   have HYR := jh (HY2.out hsq)
   clear hsq
   have HGC : Hid (m2.rangeAt 6 0 (ints .i64 RTL)) := jh (HGW.out.ext HEW.out)
   go_wp2_with (first | (refine slb c HC.out q103 HI2.out ?_) | (refine wpList_load_mid rfl _ _ rfl 6 0 rfl (ints .i64 RTL) _ HGC.out q103 rfl HIR.out ?_))
   refine (rmul_any _ _ _ _ _ HZE.out rt_el).mono ?_
   rintro e m3 ⟨r3, rfl, e3, b3⟩
   rw [← HYR.out] at e3
   obtain ⟨ws, rfl, lw, bw, qw, vw⟩ := id e3
   have HWE := jh e3
   have HC := xb HC b3
   have HA1 := xb HA1 b3
   have HA2 := xb HA2 b3
   have HEW := xt HEW b3
   have HI3 : Hid ((Tryz.prog.info? 68).map (·.size) = some (ints .i64 ws).length) := jh (by rw [zaa, lw]; exact Tryz.arr68)
   have HLW := jh lw
   clear b3 e3 lw bw vw
   go_wp2_with (refine ssb c (ints .i64 ws) HC.out (by rw [zaa, zaa, HLZ.out, HLW.out]) HI3.out (zaj _ _) ?_; intro w5 hb5 hg5)
   have HA1 := jh (HA1.out.grown hg5 (by simp; omega))
   have HA2 := jh (HA2.out.grown hg5 (by simp; omega))
   have HEW := jh (zab HEW.out hg5 (by omega))
   have HC := jh hb5
   clear hb5 hg5
   have B0 : Below w5.heap.size w5 w5.drew := (Below.refl _ _).drew
   refine wp_region_held_drew (S := fun w' => w'.rangeAt A 0 (ints .i64 xs) ∧ w'.rangeAt c 0 (ints .i64 ws)) (by kernel_rfl) ⟨zah HA1.out B0, zah HC.out B0⟩ (fun hW => ?_)
   refine tke 0 (.agg (ints .i64 ws).toArray) rfl (sld c 0 (fun w h => h.2) HU.out HI3.out) hW ?_
   try simp only [nm]
   refine tke 1 (.agg (ints .i64 ws).toArray) rfl (sld c 0 (fun w h => h.2) HU.out HI3.out) hW ?_
   try simp only [nm]
   refine tke 2 (.agg (ints .i64 ws).toArray) rfl (sld c 0 (fun w h => h.2) HU.out HI3.out) hW ?_
   try simp only [nm]
   refine tke 4 (.agg (ints .i64 xs).toArray) rfl (sld A 0 (fun w h => h.1) HU.out HI1.out) hW ?_
   try simp only [nm]
   refine rdy 3 rfl fun K hK => ?_
   go_simp
   refine (rmul_any _ _ _ _ _ HWE.out HWE.out).mono ?_
   rintro e m6 ⟨r6, rfl, e6, b6⟩
   have B6 := B0.trans (b6.mono B0.size)
   refine hK.out _ _ ⟨zah HA1.out B6, zah HC.out B6⟩ (fun hW => ?_)
   clear hK K hW
   try simp only [nm]
   refine rdy 5 rfl fun K hK => ?_
   go_simp
   refine (rsame_any _ _ _ _ _ e6 HUE.out).mono ?_
   rintro e m7 ⟨he, b7⟩
   rw [show decide (nb (rootR x * rootR x) = nb x) = rootB x from rfl] at he
   subst he
   have B7 := B6.trans (b7.mono B6.size)
   refine hK.out _ _ ⟨zah HA1.out B7, zah HC.out B7⟩ (fun hW => ?_)
   clear hK K hW
   try simp only [nm]
   refine rdy 6 rfl fun K hK => ?_
   rw [if_pos (by rfl)]
   refine zak _ _ _ rfl (A + 1) (ints .i64 ws) rfl rfl _ _ (bl_blk HA2.out B7) (by rw [zaa, zaa, HLW.out]; rfl) HI3.out (zaj _ _) ?_
   intro w8 hb8 hg8
   refine hK.out _ _ ⟨((bl_blk HA1.out B7).grown hg8 (by simp)).range, ((bl_blk HC.out B7).grown hg8 (by simp; omega)).range⟩ (fun hW => ?_)
   clear hK K hW
   try simp only [nm]
   refine rdy 7 rfl fun K hK => ?_
   go_simp
   refine hK.out _ _ ⟨((bl_blk HA1.out B7).grown hg8 (by simp)).range, ((bl_blk HC.out B7).grown hg8 (by simp; omega)).range⟩ (fun hW => ?_)
   clear hK K hW
   try simp only [nm]
   refine dne ?_
   go_wp2_with fail
   exact bodyPost_ret (zai (p := 2) (u := 3) (by rfl) _ (A + 1) _ _ _ (by rfl) hb8 q103 rfl HI3.out) rfl ⟨⟨_, rfl, HWE.out⟩, zab (HEW.out.trans B7) hg8 (by omega)⟩
def ORD : List Int := [237, 211, 245, 92, 26, 99, 18, 88, 214, 156, 247, 162, 222, 249, 222, 20, 0, 0, 0, 0, 0, 0, 0, 0, 0, 0, 0, 0, 0, 0, 0, 16]
def ORDX : List Int := ORD ++ [0]
theorem ORDX_val : gV 256 ORDX = qQ := by decide +kernel
theorem ORD_all : ∀ z ∈ ORD, 0 ≤ z ∧ z < 256 := by decide +kernel
theorem ORD_range (j : Nat) : 0 ≤ ORD.getD j 0 ∧ ORD.getD j 0 < 256 := by
 rcases q116 j ORD.length with h | h
 ·exact zcj (P := fun z => 0 ≤ z ∧ z < 256) ORD_all h
 ·rw [getD_out h]; omega
theorem ORDX_lo {j : Nat} (h : j < 32) : ORDX.getD j 0 = ORD.getD j 0 := by
 unfold ORDX
 simp only [List.getD]
 rw [List.getElem?_append_left (show j < ORD.length from h)]
theorem ORDX_top : ORDX.getD 32 0 = 0 := rfl
def zcp : Nat := 7237005577332262213973186563042994240857116359379907606001950938285454250989
theorem qN_q : (zcp : Int) = qQ := rfl
theorem qN_pos : 0 < zcp := by unfold zcp; omega
theorem nq_nat (x : Nat) : nq (x : Int) = bytesN 32 (x % zcp) := by
 unfold nq
 rw [← qN_q, ← Int.natCast_emod, Int.toNat_natCast]
structure scl_LS (r m : List Int) (c : Int) (k : Nat) : Prop where
 len : m.length = 33
 dgs : ∀ j, j < k → 0 ≤ m.getD j 0 ∧ m.getD j 0 < 256
 car : c = 0 ∨ c = 1
 val : gV 256 (m.take k) = gV 256 (r.take k) - gV 256 (ORDX.take k) + c * 256 ^ k
theorem scl_LS.start {r : List Int} (h : r.length = 33) : scl_LS r r 0 0 := ⟨h, fun j hj => by omega, Or.inl rfl, by simp [gV]⟩
theorem take_set_far {zs : List Int} {k : Nat} {z : Int} : (zs.set k z).take k = zs.take k := by
 rw [List.take_set, List.set_eq_of_length_le (by simp; omega)]
theorem scl_LS.step {r m : List Int} {c : Int} {k : Nat} (h : scl_LS r m c k) (hk : k < 33) (hr : r.length = 33) (hd : 0 ≤ r.getD k 0 ∧ r.getD k 0 < 256) (ho : 0 ≤ ORDX.getD k 0 ∧ ORDX.getD k 0 < 256) (x : Int) (hx : x = r.getD k 0 - c - ORDX.getD k 0) :
  (x < 0 → ∀ y, y = x + 256 → scl_LS r (m.set k y) 1 (k + 1)) ∧ (¬ x < 0 → ∀ y, y = x → scl_LS r (m.set k y) 0 (k + 1)) := by
 obtain ⟨h1, h2, h3, h4⟩ := h
 have key : ∀ (y d : Int), 0 ≤ y → y < 256 → (d = 0 ∨ d = 1) → y = x + 256 * d → scl_LS r (m.set k y) d (k + 1) := by
  intro y d y0 y1 hd2 hy
  refine ⟨by simp [h1], fun j hj => ?_, hd2, ?_⟩
  ·by_cases e : j = k
   ·subst e
    rw [zal (by omega)]
    exact ⟨y0, y1⟩
   ·rw [zag (by omega)]
    exact h2 j (by omega)
  ·rw [zcc _ _ _ (by simp [h1]; omega), take_set_far, zal (by omega), zcc _ r k (by omega), zcc _ ORDX k (by show k < 33; exact hk), h4, hy, hx, q122]
   generalize (256 : Int) ^ k = X
   generalize gV 256 (r.take k) = R
   generalize gV 256 (ORDX.take k) = O
   generalize r.getD k 0 = a
   generalize ORDX.getD k 0 = b
   grind
 exact ⟨fun g y hy => key y 1 (by omega) (by omega) (Or.inr rfl) (by omega), fun g y hy => key y 0 (by omega) (by omega) (Or.inl rfl) (by omega)⟩
theorem dig_val (n x : Nat) (h : x < 256 ^ n) : gV 256 (dig n x) = (x : Int) := by rw [gV_dig, q120 h]
theorem dig_cut (n x k : Nat) (hk : k < n) : (dig n x).getD k 0 = ((x / 256 ^ k % 256 : Nat) : Int) := by
 have h : k < (bytesN n x).length := by rw [zav]; exact hk
 have e : (dig n x).getD k 0 = (((bytesN n x).getD k 0).toNat : Int) := by
  unfold dig
  rw [getD_eq (by simpa using h), List.getElem_map]
  simp [List.getD, h]
 rw [e, zdd n x k hk]
theorem scl_LS.done {m : List Int} {c : Int} {x : Nat} (h : scl_LS (dig 33 x) m c 33) (hx : x < 256 ^ 33) : (c = 1 ∧ x < zcp) ∨ (c = 0 ∧ zcp ≤ x ∧ m = dig 33 (x - zcp)) := by
 obtain ⟨h1, h2, h3, h4⟩ := h
 have e1 : m.take 33 = m := q110 (by omega)
 have e2 : (dig 33 x).take 33 = dig 33 x := q110 (by rw [zdh]; omega)
 have e3 : ORDX.take 33 = ORDX := rfl
 rw [e1, e2, e3, dig_val 33 x hx, ORDX_val, ← qN_q] at h4
 have hr := gV_range (B := 256) (by omega) (zs := m) (fun i hi => h2 i (by omega))
 rw [h1] at hr
 generalize (256 : Int) ^ 33 = P at *
 rcases h3 with rfl | rfl
 ·refine Or.inr ⟨rfl, by omega, dig_of h1 h2 (by omega)⟩
 ·exact Or.inl ⟨rfl, by omega⟩
structure DB (d z : List Int) (b c : Int) (k : Nat) : Prop where
 len : z.length = 33
 dgs : ∀ j, j < k → 0 ≤ z.getD j 0 ∧ z.getD j 0 < 256
 car : c = 0 ∨ c = 1
 val : gV 256 (z.take k) + c * 256 ^ k = 2 * gV 256 (d.take k) + b
 far : ∀ j, k ≤ j → z.getD j 0 = d.getD j 0
theorem DB.start {d : List Int} {b : Int} (h : d.length = 33) (hb : b = 0 ∨ b = 1) : DB d d b b 0 := ⟨h, fun j hj => by omega, hb, by simp [gV], fun j _ => rfl⟩
theorem DB.step {d z : List Int} {b c : Int} {k : Nat} (h : DB d z b c k) (hk : k < 33) (hl : d.length = 33) (hd : 0 ≤ d.getD k 0 ∧ d.getD k 0 < 256) :
  DB d (z.set k ((2 * z.getD k 0 + c) % 256)) b ((2 * z.getD k 0 + c) / 256) (k + 1) := by
 obtain ⟨h1, h2, h3, h4, h5⟩ := h
 have h6 := h5 k (q102 _)
 rw [h6]
 refine ⟨by simp [h1], fun j hj => ?_, by omega, ?_, fun j hj => ?_⟩
 ·by_cases e : j = k
  ·subst e
   rw [zal (by omega)]
   omega
  ·rw [zag (by omega)]
   exact h2 j (by omega)
 ·rw [zcc _ _ _ (by simp [h1]; omega), take_set_far, zal (by omega), zcc _ d k (by omega), q122]
  have e := Int.mul_ediv_add_emod (2 * d.getD k 0 + c) 256
  generalize (2 * d.getD k 0 + c) / 256 = u at *
  generalize (2 * d.getD k 0 + c) % 256 = v at *
  generalize (256 : Int) ^ k = X at *
  generalize gV 256 (z.take k) = Z at *
  generalize gV 256 (d.take k) = D at *
  generalize d.getD k 0 = a at *
  have : Z = 2 * D + b - c * X := by omega
  subst this
  have : v = 2 * a + c - 256 * u := by omega
  subst this
  grind
 ·rw [zag (by omega)]
  exact h5 j (by omega)
theorem DB.done {z : List Int} {c : Int} {x bn : Nat} (h : DB (dig 33 x) z (bn : Int) c 33) (hx : x < 256 ^ 33) (hb : 2 * x + bn < 256 ^ 33) : z = dig 33 (2 * x + bn) := by
 obtain ⟨h1, h2, h3, h4, h5⟩ := h
 have e1 : z.take 33 = z := q110 (by omega)
 have e2 : (dig 33 x).take 33 = dig 33 x := q110 (by rw [zdh]; omega)
 rw [e1, e2, dig_val 33 x hx] at h4
 have hr := gV_range (B := 256) (by omega) (zs := z) (fun i hi => h2 i (by omega))
 have hb2 : ((2 * x + bn : Nat) : Int) < ((256 ^ 33 : Nat) : Int) := Int.ofNat_lt.2 hb
 have e3 : ((256 ^ 33 : Nat) : Int) = (256 : Int) ^ 33 := by simp
 rw [e3] at hb2
 clear hx hb e1 e2 e3
 generalize (256 : Int) ^ 33 = P at *
 refine dig_of h1 h2 ?_
 rcases h3 with rfl | rfl <;> omega
def upQ (E j : Nat) : Nat := E / 2 ^ j % zcp
theorem upQ_lt (E j : Nat) : upQ E j < zcp := q140 _ qN_pos
theorem dig_zero : ∀ n, dig n 0 = List.replicate n 0
 | 0 => rfl
 | n + 1 => by
  have := dig_zero n
  unfold dig at this ⊢
  simp only [bytesN, q153, List.replicate_succ, Nat.zero_div, this]
  rfl
theorem upQ_start (l : List UInt8) : dig 33 (upQ (leN l) (8 * l.length)) = List.replicate 33 0 := by
 have h := leN_lt l
 have e : (2 : Nat) ^ (8 * l.length) = 256 ^ l.length := by rw [Nat.pow_mul]
 unfold upQ
 rw [e, q157 h, Nat.zero_mod]
 exact dig_zero 33
theorem upQ_step (E j : Nat) : (2 * upQ E (j + 1) + E / 2 ^ j % 2) % zcp = upQ E j := by
 have e : E / 2 ^ j = 2 * (E / 2 ^ (j + 1)) + E / 2 ^ j % 2 := by
  have : E / 2 ^ (j + 1) = E / 2 ^ j / 2 := by rw [q177, ← q128]
  rw [this]
  omega
 unfold upQ
 rw [Nat.add_mod, Nat.mul_mod_mod, ← Nat.add_mod, ← e]
theorem sub_once (y : Nat) (h : y < 2 * zcp) : (if y < zcp then y else y - zcp) = y % zcp := by
 split
 ·rw [q120 (by assumption)]
 ·rw [Nat.mod_eq_sub_mod (by omega), q120 (by omega)]
theorem Tryz.info5 : (Tryz.prog.info? 5).map (fun i => (i.zero, i.size, i.bytes)) = some (some (.int .u8 0), 1, 1) := by kernel_rfl
def GlobO (w : World) : Prop := w.rangeAt 5 0 (ints .i64 ORD)
theorem GlobO.ext {w w' : World} (h : GlobO w) (hb : Ext w w') : GlobO w' := zfi h hb
theorem GlobO.cell {w : World} (h : GlobO w) {j : Nat} (hj : j < 32) : w.cell? ⟨5, j, none⟩ = some (.int .i64 (ORD.getD j 0)) := by
 have := h j (.int .i64 (ORD.getD j 0)) (zan (by show j < 32; exact hj))
 rwa [q125] at this
theorem Tryz.arr169 : (Tryz.prog.info? 169).map (·.size) = some 33 := by kernel_rfl
theorem scl_rsub_any (x : Nat) (w : World) (hx : x < 256 ^ 33) (hG : GlobO w) :
  Calls Tryz.prog 130 #[.agg (ints .i64 (dig 33 x)).toArray] w fun e w' => e = .returned (.agg (ints .i64 (dig 33 (if x < zcp then x else x - zcp))).toArray) ∧ Below w.heap.size w w' := by
 have HX := jh hx
 have HG := jh hG
 have HRL := jh (zdh 33 x)
 have HRD := jh (dig_digits 33 x)
 have HDN : Hid (∀ m c, scl_LS (dig 33 x) m c 33 → (c = 1 ∧ x < zcp) ∨ (c = 0 ∧ zcp ≤ x ∧ m = dig 33 (x - zcp))) := jh (fun m c h => h.done hx)
 have HRS : Hid (dig 33 x = dig 33 x) := jh rfl
 obtain ⟨r, hr⟩ : ∃ r, r = dig 33 x := ⟨_, rfl⟩
 have HRX := jh hr
 have HR1 : Hid (∀ z, x < zcp → z = dig 33 x → dig 33 (if x < zcp then x else x - zcp) = z) := jh (fun z h e => by rw [if_pos h, e])
 have HR2 : Hid (∀ z, zcp ≤ x → z = dig 33 (x - zcp) → dig 33 (if x < zcp then x else x - zcp) = z) := jh (fun z h e => by rw [if_neg (by omega), e])
 generalize dig 33 (if x < zcp then x else x - zcp) = res at *
 rw [← hr] at HRL HRD HDN ⊢
 have HB := jh (boxes2 w (ints .i64 r) (ints .i64 (List.replicate 33 0)) 169 169)
 have HB3 := jh (boxes3 w (ints .i64 r) (ints .i64 (List.replicate 33 0)) (ints .i64 (List.replicate 33 0)) 169 169 169)
 have HRI : Hid ((Tryz.prog.info? 169).map (·.size) = some (ints .i64 r).length) := jh (by rw [zaa, HRL.out]; exact Tryz.arr169)
 have HRI2 : Hid ((ints .i64 r).length = (ints .i64 (List.replicate 33 0)).length) := jh (by rw [zaa, zaa, HRL.out]; rfl)
 clear hx hG hr HRS
 go_enter Tryz.func130, Tryz.ntmps130
 go_wp2_with (first | (refine slb w.heap.size HB.out.1 Tryz.underlying169 HRI.out ?_) | (refine ssb (w.heap.size + 1 + 1) _ HB3.out.2.2.1 HRI2.out HRI.out (zaj _ _) ?_; intro w1 hb1 hg1))
 have b1 := HB3.out.1.grown hg1 (by simp; omega)
 have b2 := HB3.out.2.1.grown hg1 (by simp)
 have b4 : Ext w w1 := zab HB3.out.2.2.2 hg1 (by omega)
 clear HB HB3 hg1
 obtain ⟨A, hA⟩ : ∃ A, A = w.heap.size := ⟨_, rfl⟩
 rw [← hA] at b1 b2 hb1 ⊢
 have hA2 : w.heap.size ≤ A := by omega
 have H1 := jh b1
 have H2 := jh b2
 have H3 := jh hb1
 have HE := jh b4
 clear b1 b2 hb1 b4 hA
 go_loopw [4, 5] (fun c i wr => ∃ (k : Nat) (d : Int) (m : List Int), k ≤ 33 ∧ i = .int .i64 (k : Int) ∧ c = .int .i64 d ∧ scl_LS r m d k ∧ Blk wr A (ints .i64 r) 169 ∧ Blk wr (A + 1) (ints .i64 (List.replicate 33 0)) 169 ∧ Blk wr (A + 1 + 1) (ints .i64 m) 169 ∧ Ext w wr) (fun _ i _ => 33 - (intOf i).toNat)
 case atStart => exact ⟨0, 0, r, by omega, rfl, rfl, scl_LS.start HRL.out, H1.out, H2.out, H3.out, HE.out⟩
 case round =>
  clear H1 H2 H3 HE
  obtain ⟨k, c, m, hk, rfl, rfl, hls, hb1, hb2, hb3, hbel⟩ := hrel
  have i0' : (0 : Int) ≤ (k : Int) := Int.natCast_nonneg _
  have hc := hls.car
  by_cases hlt : k < 33
  ·have i1 : (k : Int) < 33 := by omega
   have hrl := HRL.out
   have hml := hls.len
   have e1 := hb1.cell k
   rw [zan (by omega)] at e1
   have e3 := hb3.cell k
   rw [zan (by omega)] at e3
   have f3 := hb3.free k
   have q1 := HRD.out k hlt
   have HRDK := jh q1
   generalize m.getD k 0 = u at e3
   by_cases h32 : k < 32
   ·have i2 : (k : Int) < 32 := by omega
    have eg := (HG.out.ext hbel).cell h32
    have q2 := ORD_range k
    have hst := hls.step hlt HRL.out q1 (by rw [ORDX_lo h32]; exact q2) _ rfl
    rw [ORDX_lo h32] at hst
    by_cases hneg : r.getD k 0 - c - ORD.getD k 0 < 0
    all_goals
     have HST := jh hst
     have HNG := jh hneg
     generalize r.getD k 0 = a at *
     generalize ORD.getD k 0 = o at *
     have H1 := jh hb1
     have H2 := jh hb2
     have H3 := jh hb3
     have HE := jh hbel
     clear hst hb1 hb2 hb3 hbel hls hrl hml
     rcases hc with rfl | rfl
     all_goals
      go_wp2_with fail
      go_roundw
      case rel => exact ⟨k + 1, _, _, by omega, by go_num, rfl, (by first | exact HST.out.1 HNG.out _ (by omega) | exact HST.out.2 HNG.out _ (by omega)), H1.out.far (by simp <;> omega) _, H2.out.far (by simp <;> omega) _, H3.out.seti k _, Below.setCell HE.out (by simp; omega) _⟩
      case measure => simp [intOf]; omega
   ·have hk32 : k = 32 := by omega
    subst hk32
    have hst := hls.step hlt HRL.out q1 (by rw [ORDX_top]; omega) _ rfl
    rw [ORDX_top] at hst
    by_cases hneg : r.getD 32 0 - c - 0 < 0
    all_goals
     have HST := jh hst
     have HNG := jh hneg
     generalize r.getD 32 0 = a at *
     have H1 := jh hb1
     have H2 := jh hb2
     have H3 := jh hb3
     have HE := jh hbel
     clear hst hb1 hb2 hb3 hbel hls hrl hml
     rcases hc with rfl | rfl
     all_goals (go_wp2_with fail)
     all_goals
      go_roundw
      case rel => exact ⟨32 + 1, _, _, by omega, by go_num, rfl, (by first | exact HST.out.1 HNG.out _ (by omega) | exact HST.out.2 HNG.out _ (by omega)), H1.out.far (by simp <;> omega) _, H2.out.far (by simp <;> omega) _, H3.out.seti 32 _, Below.setCell HE.out (by simp; omega) _⟩
      case measure => simp [intOf]
  ·have hk33 : k = 33 := by omega
   subst hk33
   have hdn := HDN.out m c hls
   have hml := hls.len
   have HMI : Hid ((Tryz.prog.info? 169).map (·.size) = some (ints .i64 m).length) := jh (by rw [zaa, hml]; exact Tryz.arr169)
   have HMI2 : Hid ((ints .i64 m).length = (ints .i64 (List.replicate 33 0)).length) := jh (by rw [zaa, zaa, hml]; rfl)
   have H1 := jh hb1
   have H2 := jh hb2
   have H3 := jh hb3
   have HE := jh hbel
   clear hb1 hb2 hb3 hbel hls hml hc
   rcases hdn with ⟨rfl, h1⟩ | ⟨rfl, h1, h2⟩
   ·have HF := jh (HR1.out r h1 HRX.out)
    clear h1
    go_wp2_with (first | (refine slb A H1.out Tryz.underlying169 HRI.out ?_) | (refine ssb (A + 1) _ H2.out HRI2.out HRI.out (zaj _ _) ?_; intro w7 hb7 hg7))
    exact bodyPost_ret (v := .agg (ints .i64 r).toArray) (zap (by rfl) _ (A + 1) _ _ _ (by rfl) hb7 Tryz.underlying169 rfl HRI.out) rfl ⟨by rw [HF.out], zab HE.out hg7 (by omega)⟩
   ·have HF := jh (HR2.out m h1 h2)
    clear h1 h2
    go_wp2_with (first | (refine slb (A + 1 + 1) H3.out Tryz.underlying169 HMI.out ?_) | (refine ssb (A + 1) _ H2.out HMI2.out HMI.out (zaj _ _) ?_; intro w7 hb7 hg7))
    exact bodyPost_ret (v := .agg (ints .i64 m).toArray) (zap (by rfl) _ (A + 1) _ _ _ (by rfl) hb7 Tryz.underlying169 rfl HMI.out) rfl ⟨by rw [HF.out], zab HE.out hg7 (by omega)⟩
theorem Tryz.arr127 : (Tryz.prog.info? 127).map (·.size) = some 19 := by kernel_rfl
theorem mask28 (a : Int) (h1 : -9223372036854775808 ≤ a) (h2 : a ≤ 9223372036854775807) : bits .and .i64 a 268435455 = a % 268435456 := by
 have h : (BitVec.ofInt 64 268435455).toNat = 2 ^ 28 - 1 := by decide
 have key : (BitVec.ofInt 64 a &&& BitVec.ofInt 64 268435455).toNat = (a % ((2 ^ 64 : Nat) : Int)).toNat % 2 ^ 28 := by
  rw [BitVec.toNat_and, BitVec.toNat_ofInt, h, q145]
 show IntKind.i64.wrap ((BitVec.ofInt 64 a &&& BitVec.ofInt 64 268435455).toNat : Nat) = _
 rw [key, IntKind.wrap_i64]
 omega
theorem zdo (x : List Int) (f : Nat) : ∀ n, (cRun x f n).length = x.length
 | 0 => rfl
 | n + 1 => by simp [cRun, cStep, zdo x f n]
theorem zfe (x : List Int) (f n : Nat) (fi ti : Int) (B : Int) (hl : x.length = 19) (hn : f + n ≤ 18) (hf : fi = (f : Int)) (ht : ti = ((f + n : Nat) : Int)) (h0 : 0 ≤ B) (h1 : B ≤ 2305843009213693952) (hB : ∀ j, f ≤ j → j ≤ f + n → -B ≤ x.getD j 0 ∧ x.getD j 0 ≤ B) (w : World) :
  Calls Tryz.prog 128 #[.agg (ints .i64 x).toArray, .int .i64 fi, .int .i64 ti] w fun e w' => e = .returned (.agg (ints .i64 (cRun x f n)).toArray) ∧ Below w.heap.size w w' := by
 subst hf; subst ht
 have HR : ∀ k, k ≤ n → CR x (cRun x f k) f k B := fun k hk => cRun_spec x f B h0 k (by omega) (fun j g1 g2 => hB j g1 (by omega))
 have HCR := jh HR
 have HXB := jh hB
 have HL := jh hl
 have HB := jh (boxes2 w (ints .i64 x) (ints .i64 (List.replicate 19 0)) 127 127)
 clear HR hB hl
 go_enter Tryz.func128, Tryz.ntmps128
 go_wp2_with fail
 change Code.wp _ _ _ _ ((w.alloc (.cells (ints .i64 x).toArray 127)).alloc (.cells (ints .i64 (List.replicate 19 0)).toArray 127))
 generalize (w.alloc (.cells (ints .i64 x).toArray 127)).alloc (.cells (ints .i64 (List.replicate 19 0)).toArray 127) = w0 at *
 obtain ⟨b1, b2, b3⟩ := HB.out
 obtain ⟨A, hA⟩ : ∃ A, A = w.heap.size := ⟨_, rfl⟩
 rw [← hA] at b1 b2 ⊢
 have hA2 : w.heap.size ≤ A := by omega
 have H1 := jh b1
 have H2 := jh b2
 have H3 := jh b3
 clear b1 b2 b3 hA HB
 go_loopw [7] (fun i wr => ∃ (k : Nat), k ≤ n ∧ i = .int .i64 ((f + k : Nat) : Int) ∧ Blk wr A (ints .i64 (cRun x f k)) 127 ∧ Blk wr (A + 1) (ints .i64 (List.replicate 19 0)) 127 ∧ Below w.heap.size w wr) (fun i _ => f + n - (intOf i).toNat)
 case atStart => exact ⟨0, by omega, rfl, H1.out, H2.out, H3.out⟩
 case round =>
  clear H1 H2 H3
  obtain ⟨k, hk, rfl, hb1, hb2, hbel⟩ := hrel
  have i0' : (0 : Int) ≤ ((f + k : Nat) : Int) := Int.natCast_nonneg _
  have hlen := zdo x f k
  rw [HL.out] at hlen
  by_cases hlt : k < n
  ·obtain ⟨c1, c2, c3, c4, c5, c6⟩ := HCR.out k hk
   have i1 : ((f + k : Nat) : Int) < ((f + n : Nat) : Int) := by omega
   have i2 : ((f + k : Nat) : Int) + 1 < 19 := by omega
   have i3 : ((f + k : Nat) : Int) < 19 := by omega
   have e1 := hb1.cell (f + k)
   rw [zan (by omega)] at e1
   have e2 := hb1.cell (f + k + 1)
   rw [zan (by omega)] at e2
   have f1 := hb1.free (f + k)
   have f2 := hb1.free (f + k + 1)
   have g2 := c6 (f + k + 1) (by omega)
   have g3 := HXB.out (f + k + 1) (by omega) (by omega)
   rw [← g2] at g3
   have hst : cRun x f (k + 1) = ((cRun x f k).set (f + k + 1) ((cRun x f k).getD (f + k + 1) 0 + (cRun x f k).getD (f + k) 0 / 268435456)).set (f + k) ((cRun x f k).getD (f + k) 0 % 268435456) := rfl
   have HST := jh hst
   clear c1 c2 c3 c4 c6 g2 hst
   generalize (cRun x f k).getD (f + k) 0 = a at *
   generalize (cRun x f k).getD (f + k + 1) 0 = b at *
   have hm := mask28 a (by omega) (by omega)
   have H1 := jh hb1
   have H2 := jh hb2
   have H3 := jh hbel
   clear hb1 hb2 hbel hlen
   generalize hfk : f + k = i at *
   have W1 : Hid (wrap64 (b + a / 268435456) = b + a / 268435456) := jh (by rw [← IntWalk.i64_left]; exact IntWalk.i64_in _ (by omega))
   have s1 : (0 : Int) ≤ (i : Int) + 1 := by omega
   go_wp2_with fail
   go_region
   go_wp2_with fail
   go_roundw
   case rel =>
    refine ⟨k + 1, by omega, ?_, ?_, (H2.out.far (by simp) _).far (by simp) _, ((H3.out.setCell hA2 _).setCell hA2 _).drew⟩
    ·rw [← Nat.add_assoc, hfk]
     go_num
    ·rw [HST.out, ← zbq, ← zbq]
     exact (H1.out.set (i + 1) _).set i _
   case measure => simp [intOf]; omega
  ·have hk' : k = n := by omega
   subst hk'
   have HB1 := jh hb1
   have HB2 := jh hb2
   have HBE := jh hbel
   have hi1 : Hid ((Tryz.prog.info? 127).map (·.size) = some (ints .i64 (cRun x f k)).length) := jh (by rw [zaa, hlen]; exact Tryz.arr127)
   have hl1 : Hid ((ints .i64 (cRun x f k)).length = (ints .i64 (List.replicate 19 0)).length) := jh (by rw [zaa, zaa, hlen]; rfl)
   clear hb1 hb2 hbel hlen
   go_wp2_with (first | (refine slb A HB1.out q155 hi1.out ?_) | (refine ssb (A + 1) _ HB2.out hl1.out hi1.out (zaj _ _) ?_; intro w5 hb5 hg5))
   exact bodyPost_ret (v := .agg (ints .i64 (cRun x f k)).toArray) (zap (by rfl) _ (A + 1) _ _ _ (by rfl) hb5 q155 rfl hi1.out) rfl ⟨rfl, zab HBE.out hg5 (by omega)⟩
def GlobT (w : World) : Prop := w.rangeAt 8 0 (ints .i64 TAIL)
theorem GlobT.ext {w w' : World} (h : GlobT w) (hb : Ext w w') : GlobT w' := zfi h hb
theorem Tryz.arr180 : (Tryz.prog.info? 180).map (·.size) = some 5 := by kernel_rfl
theorem tail_index (m : Nat) (hm : m < 5) (w : World) : (Instr.index 180 (.agg (ints .i64 TAIL).toArray) (.int .i64 (m : Int))).run Tryz.prog w = .ok (.int .i64 (TAIL.getD m 0)) w := by
 rcases (by omega : m = 0 ∨ m = 1 ∨ m = 2 ∨ m = 3 ∨ m = 4) with rfl | rfl | rfl | rfl | rfl <;> kernel_rfl
theorem sgn_shift (a : Int) (h1 : -1 ≤ a) (h2 : a ≤ 268435456) : ∃ ng : Int, a / 9223372036854775808 = ng ∧ ∀ t : Int, 0 ≤ t → t ≤ 268435456 → bits .and .i64 ng t = (if a < 0 then 1 else 0) * t := by
 by_cases h : a < 0
 ·refine ⟨-1, by omega, fun t t0 t1 => ?_⟩
  have e : BitVec.ofInt 64 (-1) = BitVec.allOnes 64 := by decide
  show IntKind.i64.wrap ((BitVec.ofInt 64 (-1) &&& BitVec.ofInt 64 t).toNat : Nat) = _
  rw [e, BitVec.allOnes_and, BitVec.toNat_ofInt, IntKind.wrap_i64, if_pos h]
  omega
 ·refine ⟨0, by omega, fun t t0 t1 => ?_⟩
  have e : BitVec.ofInt 64 0 = 0#64 := by decide
  show IntKind.i64.wrap ((BitVec.ofInt 64 0 &&& BitVec.ofInt 64 t).toNat : Nat) = _
  rw [e, BitVec.zero_and, if_neg h]
  simp [IntKind.wrap_i64]
theorem rest_any (x : List Int) (v : Int) (w : World) (h : RI x 18 v) (hG : GlobT w) :
  Calls Tryz.prog 129 #[.agg (ints .i64 x).toArray] w fun e w' => e = .returned (.agg (ints .i64 (restF x)).toArray) ∧ Below w.heap.size w w' := by
 have HRI := jh (fun n hn => rRun_RI h n hn)
 have HG := jh hG
 have HL := jh h.len
 have HB := jh (boxes2 w (ints .i64 x) (ints .i64 (List.replicate 19 0)) 127 127)
 have HTI : Hid ((Tryz.prog.info? 180).map (·.size) = some (ints .i64 TAIL).length) := jh (by rw [zaa]; exact Tryz.arr180)
 clear h hG
 go_enter Tryz.func129, Tryz.ntmps129
 go_wp2_with fail
 change Code.wp _ _ _ _ ((w.alloc (.cells (ints .i64 x).toArray 127)).alloc (.cells (ints .i64 (List.replicate 19 0)).toArray 127))
 generalize (w.alloc (.cells (ints .i64 x).toArray 127)).alloc (.cells (ints .i64 (List.replicate 19 0)).toArray 127) = w0 at *
 obtain ⟨b1, b2, b3⟩ := HB.out
 obtain ⟨A, hA⟩ : ∃ A, A = w.heap.size := ⟨_, rfl⟩
 rw [← hA] at b1 b2 ⊢
 have hA2 : w.heap.size ≤ A := by omega
 have H1 := jh b1
 have H2 := jh b2
 have H3 : Hid (Ext w w0) := jh b3
 clear b1 b2 b3 hA HB
 go_loopw [3] (fun i wr => ∃ (n : Nat), n ≤ 10 ∧ i = .int .i64 (18 - (n : Int)) ∧ Blk wr A (ints .i64 (zel x n)) 127 ∧ Blk wr (A + 1) (ints .i64 (List.replicate 19 0)) 127 ∧ Ext w wr) (fun i _ => (intOf i).toNat)
 case atStart => exact ⟨0, by omega, rfl, H1.out, H2.out, H3.out⟩
 case round =>
  clear H1 H2 H3
  obtain ⟨n, hn, rfl, hb1, hb2, hbel⟩ := hrel
  by_cases hlt : n < 10
  ·have hi : ∃ i : Nat, i = 18 - n := ⟨_, rfl⟩
   obtain ⟨i, hi⟩ := hi
   have hii : (18 : Int) - (n : Int) = (i : Int) := by omega
   have i9 : (9 : Int) ≤ (i : Int) := by omega
   have i18 : (i : Int) ≤ 18 := by omega
   have j9 : 9 ≤ i := by omega
   have j18 : i ≤ 18 := by omega
   have hri := HRI.out n (by omega)
   rw [← hi] at hri
   have hst : zel x (n + 1) = rStep (zel x n) i := by rw [hi]; rfl
   rw [hii]
   generalize zel x n = y at *
   have HRS := jh hri
   have HST := jh hst
   have HYL := jh hri.len
   have HII := jh hii
   have HIN := jh hi
   have H1 := jh hb1
   have H2 := jh hb2
   have H3 := jh hbel
   have HGR : Hid (wr.rangeAt 8 0 (ints .i64 TAIL)) := jh (HG.out.ext hbel)
   clear hri hst hb1 hb2 hbel hii hi
   go_wp2_with (refine wpList_load_mid rfl _ _ rfl 8 0 rfl (ints .i64 TAIL) _ HGR.out Tryz.underlying180 rfl HTI.out ?_)
   obtain ⟨wo, rfl⟩ : ∃ wo : World, wo = wr := ⟨_, rfl⟩
   go_loopw [14] (fun j wr => ∃ (m : Nat), m ≤ 5 ∧ j = .int .i64 m ∧ Blk wr A (ints .i64 (zbp y i m)) 127 ∧ Blk wr (A + 1) (ints .i64 (List.replicate 19 0)) 127 ∧ Ext w wr) (fun j _ => 5 - (intOf j).toNat)
   case atStart => exact ⟨0, by omega, rfl, H1.out, H2.out, H3.out⟩
   case round =>
    clear H1 H2 H3 HGR
    obtain ⟨m, hm, rfl, hb1, hb2, hbel⟩ := hrel
    have m0 : (0 : Int) ≤ (m : Int) := Int.natCast_nonneg _
    have hlen := zds y i m
    rw [HYL.out] at hlen
    by_cases hlm : m < 5
    ·have m1 : (m : Int) < 5 := by omega
     have HIX := tail_index m hlm
     have e1 := hb1.cell (i - 9 + m)
     rw [zan (by omega)] at e1
     have e2 := hb1.cell i
     rw [zan (by omega)] at e2
     have f1 := hb1.free (i - 9 + m)
     have hst : zbp y i (m + 1) = (zbp y i m).set (i - 9 + m) ((zbp y i m).getD (i - 9 + m) 0 - (zbp y i m).getD i 0 * TAIL.getD m 0) := rfl
     have HST2 := jh hst
     have q1 := HRS.out.here
     rw [← tRun_top y i j9 m (by omega)] at q1
     have q2 := HRS.out.low (i - 9 + m) (by omega)
     rw [← tRun_far y i m (i - 9 + m) (by omega)] at q2
     have q3 := TAIL_getD m
     generalize (zbp y i m).getD (i - 9 + m) 0 = a at *
     generalize (zbp y i m).getD i 0 = u at *
     generalize TAIL.getD m 0 = t at *
     have p1 : -268435456 ≤ u * t ∧ u * t ≤ 72057594037927936 := by
      constructor
      ·rcases Int.le_total 0 u with g2 | g2
       ·have := q151 g2 q3.1
        omega
       ·have e1 : u = 0 ∨ u = -1 := by omega
        rcases e1 with rfl | rfl <;> omega
      ·rcases Int.le_total 0 u with g2 | g2
       ·exact Int.le_trans (Int.mul_le_mul q1.2 (show t ≤ 268435456 by omega) q3.1 (by omega)) (by omega)
       ·have : u * t ≤ 0 := Int.mul_nonpos_of_nonpos_of_nonneg g2 q3.1
        omega
     have W1 : Hid (wrap64 (u * t) = u * t) := jh (by rw [← IntWalk.i64_left]; exact IntWalk.i64_in _ (by omega))
     have W2 : Hid (wrap64 (a - u * t) = a - u * t) := jh (by rw [← IntWalk.i64_left]; exact IntWalk.i64_in _ (by omega))
     obtain ⟨p, hp⟩ : ∃ p : Nat, p = i - 9 + m := ⟨_, rfl⟩
     rw [← hp] at e1 f1
     have hpp : (i : Int) - 9 + (m : Int) = (p : Int) := by omega
     have p19 : (p : Int) < 19 := by omega
     have HP := jh hp
     have H1 := jh hb1
     have H2 := jh hb2
     have H3 := jh hbel
     clear hst hp hb1 hb2 hbel hlen
     go_wp2_with fail
     go_region
     go_wp2_with fail
     go_roundw
     case rel =>
      refine ⟨m + 1, by omega, by go_num, ?_, (H2.out.far (by simp) _).drewN 1, (Below.setCell H3.out hA2 _).drew⟩
      rw [HST2.out, ← HP.out, ← zbq]
      exact (H1.out.set p _).drewN 1
     case measure => simp [intOf]; omega
    ·have hm5 : m = 5 := by omega
     subst hm5
     have f1 := hb1.free i
     have e1 := hb1.cell i
     rw [zan (by omega)] at e1
     generalize (zbp y i 5).getD i 0 = u at e1
     have hpt := HRS.out.part j9 j18
     have HCA := jh (fun w => zfe ((zbp y i 5).set i 0) (i - 9) 8 ((i : Int) - 9) ((i : Int) - 1) 1152921504606846976 (by simp [hlen]) (by omega) (by omega) (by omega) (by omega) (by omega) (fun j _ hj => hpt.1 j (by omega)) w)
     have hb1' := hb1.set i (.int .i64 0)
     rw [zbq] at hb1'
     have hb2' := hb2.far (a := ⟨A, i, none⟩) (by simp) (.int .i64 0)
     have hbel' : Ext w (wr.setCell ⟨A, i, none⟩ (.int .i64 0)) := Below.setCell hbel hA2 _
     have hi1 : Hid ((Tryz.prog.info? 127).map (·.size) = some (ints .i64 ((zbp y i 5).set i 0)).length) := jh (by rw [zaa, q154, hlen]; exact Tryz.arr127)
     have H1 := jh hb1'
     have H2 := jh hb2'
     have H3 := jh hbel'
     have HLN := jh hlen
     clear hb1 hb2 hbel hb1' hb2' hbel' hpt hlen
     go_wp2_with (refine slb A H1.out q155 hi1.out ?_)
     refine (HCA.out _).mono ?_
     rintro e w5 ⟨rfl, hb5⟩
     have H1 := xb H1 hb5
     have H2 := xb H2 hb5
     have H3 := jh (H3.out.trans hb5)
     have hi2 : Hid ((Tryz.prog.info? 127).map (·.size) = some (ints .i64 (cRun ((zbp y i 5).set i 0) (i - 9) 8)).length) := jh (by rw [zaa, zdo, q154, HLN.out]; exact Tryz.arr127)
     have hl2 : Hid ((ints .i64 (cRun ((zbp y i 5).set i 0) (i - 9) 8)).length = (ints .i64 ((zbp y i 5).set i 0)).length) := jh (by rw [zaa, zaa, zdo])
     clear hb5 HCA
     go_wp2_with (refine ssb A _ H1.out hl2.out hi2.out (zaj _ _) ?_; intro w6 hb6 hg6)
     go_roundw
     case rel =>
      refine ⟨n + 1, by omega, ?_, ?_, H2.out.grown hg6 (by simp), zab H3.out hg6 hA2⟩
      ·have := HII.out
       rw [show (i : Int) - 1 = 18 - ((n + 1 : Nat) : Int) from by omega]
      ·rw [HST.out]
       exact hb6
     case measure => simp [intOf]; omega
  ·have hn10 : n = 10 := by omega
   subst hn10
   have hri := HRI.out 10 (by omega)
   have hrf : restF x = cRun (addQ (zel x 10)) 0 8 := rfl
   generalize zel x 10 = y at *
   obtain ⟨ng, hng, hand⟩ := sgn_shift (y.getD 8 0) (hri.here.1) (hri.here.2)
   change ∀ t : Int, _ → _ → _ = sgn y * t at hand
   have hs01 := sgn_01 y
   have hadd := addQ_range hri
   have had : addQ y = (aRun y (sgn y) 5).set 8 ((aRun y (sgn y) 5).getD 8 0 + sgn y * 268435456) := rfl
   have e8 := hb1.cell 8
   have hlen := hri.len
   rw [zan (by omega)] at e8
   have HRS : Hid (RI y 8 v) := jh hri
   have HAND := jh hand
   have HADD := jh hadd
   have HAD := jh had
   have HRF := jh hrf
   have HYL := jh hlen
   have HS := jh hs01
   generalize sgn y = s at *
   have H1 := jh hb1
   have H2 := jh hb2
   have H3 := jh hbel
   have HGR : Hid (wr.rangeAt 8 0 (ints .i64 TAIL)) := jh (HG.out.ext hbel)
   clear hri hb1 hb2 hbel hrf had hadd hand hlen hs01
   generalize y.getD 8 0 = y8 at *
   go_wp2_with (refine wpList_load_mid rfl _ _ rfl 8 0 rfl (ints .i64 TAIL) _ HGR.out Tryz.underlying180 rfl HTI.out ?_)
   clear e8 hng
   obtain ⟨wo, rfl⟩ : ∃ wo : World, wo = wr := ⟨_, rfl⟩
   go_loopw [44] (fun j wr => ∃ (m : Nat), m ≤ 5 ∧ j = .int .i64 m ∧ Blk wr A (ints .i64 (aRun y s m)) 127 ∧ Blk wr (A + 1) (ints .i64 (List.replicate 19 0)) 127 ∧ Ext w wr) (fun j _ => 5 - (intOf j).toNat)
   case atStart => exact ⟨0, by omega, rfl, H1.out, H2.out, H3.out⟩
   case round =>
    clear H1 H2 H3 HGR
    obtain ⟨m, hm, rfl, hb1, hb2, hbel⟩ := hrel
    have m0 : (0 : Int) ≤ (m : Int) := Int.natCast_nonneg _
    have hlen := zes y s m
    rw [HYL.out] at hlen
    by_cases hlm : m < 5
    ·have m1 : (m : Int) < 5 := by omega
     have m19 : (m : Int) < 19 := by omega
     have HIX := tail_index m hlm
     have e1 := hb1.cell m
     rw [zan (by omega)] at e1
     have f1 := hb1.free m
     have hst : aRun y s (m + 1) = (aRun y s m).set m ((aRun y s m).getD m 0 + s * TAIL.getD m 0) := rfl
     have q3 := TAIL_getD m
     have HAN := HAND.out (TAIL.getD m 0) q3.1 (by omega)
     have q2 := HRS.out.low m (by omega)
     rw [← aRun_far y s m m (q102 _)] at q2
     have q4 : 0 ≤ s * TAIL.getD m 0 ∧ s * TAIL.getD m 0 < 268435456 := by rcases HS.out with h | h <;> rw [h] <;> omega
     have HST2 := jh hst
     generalize (aRun y s m).getD m 0 = a at *
     generalize s * TAIL.getD m 0 = st at *
     generalize TAIL.getD m 0 = t at *
     have H1 := jh hb1
     have H2 := jh hb2
     have H3 := jh hbel
     clear hst hb1 hb2 hbel hlen q3
     go_wp2_with fail
     go_roundw
     case rel =>
      refine ⟨m + 1, by omega, by go_num, ?_, H2.out.far (by simp) _, Below.setCell H3.out hA2 _⟩
      rw [HST2.out, ← zbq]
      exact H1.out.set m _
     case measure => simp [intOf]; omega
    ·have hm5 : m = 5 := by omega
     subst hm5
     have f8 := hb1.free 8
     have e8 := hb1.cell 8
     rw [zan (by omega)] at e8
     have q8 := HRS.out.here
     rw [← aRun_far y s 5 8 (by omega)] at q8
     have HAN := HAND.out 268435456 (by omega) (by omega)
     have q4 : 0 ≤ s * 268435456 ∧ s * 268435456 ≤ 268435456 := by rcases HS.out with h | h <;> rw [h] <;> omega
     have hal : (addQ y).length = 19 := HADD.out.1
     have HCA := jh (fun w => zfe (addQ y) 0 8 0 8 1152921504606846976 hal (by omega) rfl rfl (by omega) (by omega) (fun j _ hj => HADD.out.2.1 j (by omega)) w)
     have hb1' := hb1.set 8 (.int .i64 ((aRun y s 5).getD 8 0 + s * 268435456))
     rw [zbq, ← HAD.out] at hb1'
     have hb2' := hb2.far (a := ⟨A, 8, none⟩) (by simp) (.int .i64 ((aRun y s 5).getD 8 0 + s * 268435456))
     have hbel' : Ext w (wr.setCell ⟨A, 8, none⟩ (.int .i64 ((aRun y s 5).getD 8 0 + s * 268435456))) := Below.setCell hbel hA2 _
     generalize (aRun y s 5).getD 8 0 = a8 at *
     generalize s * 268435456 = st at *
     have hi1 : Hid ((Tryz.prog.info? 127).map (·.size) = some (ints .i64 (addQ y)).length) := jh (by rw [zaa, hal]; exact Tryz.arr127)
     have H1 := jh hb1'
     have H2 := jh hb2'
     have H3 := jh hbel'
     have HLN := jh hal
     clear hb1 hb2 hbel hb1' hb2' hbel' hlen hal
     go_wp2_with (refine slb A H1.out q155 hi1.out ?_)
     refine (HCA.out _).mono ?_
     rintro e w5 ⟨rfl, hb5⟩
     have H2 := xb H2 hb5
     have H3 := jh (H3.out.trans hb5)
     have hi2 : Hid ((Tryz.prog.info? 127).map (·.size) = some (ints .i64 (cRun (addQ y) 0 8)).length) := jh (by rw [zaa, zdo, HLN.out]; exact Tryz.arr127)
     have hl2 : Hid ((ints .i64 (cRun (addQ y) 0 8)).length = (ints .i64 (List.replicate 19 0)).length) := jh (by rw [zaa, zaa, zdo, HLN.out]; rfl)
     clear hb5 HCA
     go_wp2_with (refine ssb (A + 1) _ H2.out hl2.out hi2.out (zaj _ _) ?_; intro w6 hb6 hg6)
     exact bodyPost_ret (v := .agg (ints .i64 (cRun (addQ y) 0 8)).toArray) (zap (by rfl) _ (A + 1) _ _ _ (by rfl) hb6 q155 rfl hi2.out) rfl ⟨by rw [HRF.out], zab H3.out hg6 (by omega)⟩
theorem gTail : Tryz.prog.globalNamed "portcullis/scalar.tail" = some 8 := by kernel_rfl
theorem tTail : (Tryz.prog.globals[8]?).map (·.type) = some 180 := by kernel_rfl
theorem dTail : (Rows.laid_portcullis_scalar_tail : DataW Unit) = .agg (TAIL.map fun z => .lit (.int .i64 z)) := rfl
theorem gOrder : Tryz.prog.globalNamed "portcullis/portcullisref3.order" = some 5 := by kernel_rfl
theorem tOrder : (Tryz.prog.globals[5]?).map (·.type) = some 142 := by kernel_rfl
theorem dOrder : (Rows.laid_portcullis_portcullisref3_order : DataW Unit) = .agg (ORD.map fun z => .lit (.int .i64 z)) := rfl
theorem globT_of {W : World} {L : List (String × DataW Unit)} (hp : (L.all fun x => x.2.handleName?.isNone) = true) (h : laidMetH Tryz.prog L W) (hm : ("portcullis/scalar.tail", Rows.laid_portcullis_scalar_tail) ∈ L) : GlobT W :=
 zcm hp h hm dTail gTail tTail Tryz.underlying180 Tryz.underlying2 (by kernel_rfl) rfl
theorem globO_of {W : World} {L : List (String × DataW Unit)} (hp : (L.all fun x => x.2.handleName?.isNone) = true) (h : laidMetH Tryz.prog L W) (hm : ("portcullis/portcullisref3.order", Rows.laid_portcullis_portcullisref3_order) ∈ L) : GlobO W :=
 zcm hp h hm dOrder gOrder tOrder Tryz.underlying142 q147 (by kernel_rfl) rfl
theorem and_u64_63 (n : Nat) (h1 : 0 < n) (h2 : n < 64) : bits .and .u64 (IntKind.u64.wrap (-(n : Int))) 63 = ((64 - n : Nat) : Int) := by
 have h : (BitVec.ofInt 64 63).toNat = 2 ^ 6 - 1 := by decide
 have key : (BitVec.ofInt 64 (IntKind.u64.wrap (-(n : Int))) &&& BitVec.ofInt 64 63).toNat = ((IntKind.u64.wrap (-(n : Int))) % ((2 ^ 64 : Nat) : Int)).toNat % 2 ^ 6 := by
  rw [BitVec.toNat_and, BitVec.toNat_ofInt, h, q145]
 show IntKind.u64.wrap ((BitVec.ofInt 64 (IntKind.u64.wrap (-(n : Int))) &&& BitVec.ofInt 64 63).toNat : Nat) = _
 rw [key, IntKind.wrap_u64, IntKind.wrap_u64]
 omega
theorem qi_rotlQ (a : Q64) (n : Nat) : bits .or .u64 (IntKind.u64.wrap (qi a * 2 ^ (64 - n))) (qi a / 2 ^ n) = qi (rotq a n) := by
 rw [qi_shr, qi_shl, qi_or, BitVec.or_comm]
 rfl
theorem rotl_anyQ (x : Q64) (n : Nat) (h1 : 0 < n) (h2 : n < 64) (w : World) : Calls Tryz.prog 145 #[.int .u64 (qi x), .int .i64 (-(n : Int))] w fun e w' => e = .returned (.int .u64 (qi (rotq x n))) ∧ w = w' := by
 have HX := jh (qi_rotlQ x n)
 have hr := qi_range x
 have ha := and_u64_63 n h1 h2
 have n0 : 64 - ((64 - n : Nat) : Int) = (n : Int) := by omega
 have n1 : ((64 - n : Nat) : Int) < 64 := by omega
 generalize qi x = z at *
 generalize 64 - n = m at *
 have hw : IntKind.u64.wrap (64 - (m : Int)) = (n : Int) := by rw [n0, IntKind.wrap_u64]; omega
 go_enter Tryz.func145, Tryz.ntmps145
 go_wp2_with fail
 go_ret
 exact ⟨congrArg (fun v => Ending.returned (.int .u64 v)) (by rw [← HX.out, IntKind.wrap_u64]), rfl⟩
theorem zem (x : Q64) (n : Nat) (h1 : 0 < n) (h2 : n < 64) (w : World) : Calls Tryz.prog 144 #[.int .u64 (qi x), .int .i64 (n : Int)] w fun e w' => e = .returned (.int .u64 (qi (rotq x n))) ∧ w = w' := by
 have HR := jh (rotl_anyQ x n h1 h2 w)
 generalize qi x = z at *
 generalize qi (rotq x n) = r at *
 have hw : IntKind.i64.wrap (-(n : Int)) = -(n : Int) := IntWalk.i64_in _ (by omega)
 go_enter Tryz.func144, Tryz.ntmps144
 go_wp2_with fail
 refine HR.out.mono ?_
 rintro e w' ⟨rfl, rfl⟩
 go_wp2_with fail
 go_ret
 exact ⟨rfl, rfl⟩
theorem sum_anyQ (x : Q64) (a b c : Nat) (a1 : 0 < a) (a2 : a < 64) (b1 : 0 < b) (b2 : b < 64) (c1 : 0 < c) (c2 : c < 64) (w : World) :
  Calls Tryz.prog 139 #[.int .u64 (qi x), .int .i64 (a : Int), .int .i64 (b : Int), .int .i64 (c : Int)] w fun e w' => e = .returned (.int .u64 (qi (rotq x a ^^^ rotq x b ^^^ rotq x c))) ∧ w = w' := by
 have HA := jh (fun w => zem x a a1 a2 w)
 have HB := jh (fun w => zem x b b1 b2 w)
 have HC := jh (fun w => zem x c c1 c2 w)
 have hx : qi (rotq x a ^^^ rotq x b ^^^ rotq x c) = bits .xor .u64 (bits .xor .u64 (qi (rotq x a)) (qi (rotq x b))) (qi (rotq x c)) := by rw [zed, zed]
 rw [hx]
 generalize qi x = z at *
 generalize qi (rotq x a) = ra at *
 generalize qi (rotq x b) = rb at *
 generalize qi (rotq x c) = rc at *
 clear hx
 go_enter Tryz.func139, Tryz.ntmps139
 go_wp2_with fail
 refine (HA.out _).mono ?_
 rintro e w' ⟨rfl, rfl⟩
 go_wp2_with fail
 refine (HB.out _).mono ?_
 rintro e w' ⟨rfl, rfl⟩
 go_wp2_with fail
 refine (HC.out _).mono ?_
 rintro e w' ⟨rfl, rfl⟩
 go_wp2_with fail
 go_ret
 exact ⟨rfl, rfl⟩
theorem sum_extQ (x : Q64) (a b c : Nat) (a1 : 0 < a) (a2 : a < 64) (b1 : 0 < b) (b2 : b < 64) (c1 : 0 < c) (c2 : c < 64) (w : World) :
  Calls Tryz.prog 139 #[.int .u64 (qi x), .int .i64 (a : Int), .int .i64 (b : Int), .int .i64 (c : Int)] w fun e w' => e = .returned (.int .u64 (qi (rotq x a ^^^ rotq x b ^^^ rotq x c))) ∧ Below w.heap.size w w' :=
 (sum_anyQ x a b c a1 a2 b1 b2 c1 c2 w).mono fun _ _ h => ⟨h.1, by obtain ⟨_, rfl⟩ := h; exact Below.refl _ _⟩
section
section
variable {P : Program} {ops : Array Oper} {C : World → Prop} {D : Act → Prop}
theorem det_conv {o : Oper} {rest : List Oper} {a : Act} (src dst : TypeId) (x : Operand) (k k' : IntKind) (n r : Int) (hw : Region.wanted o (yielded ops a.tmps) = true) (ho : o.op = .convert src dst x) (hx : a.eval x = .int k n)
  (hs : (P.underlying src).isSome = true) (hd : P.underlying dst = some (.int k')) (hr : k'.wrap n = r) (next : wpDet P ops C D rest (a.put o.dst (.int k' r))) : wpDet P ops C D (o :: rest) a :=
 zaw _ hw (fun w _ => by
  obtain ⟨u, hu⟩ := Option.isSome_iff_exists.1 hs
  have h : (convert src dst (.int k n)).run P w = .ok (.int k' r) w := by
   simp [convert, run_underlying hu, run_underlying hd, Conv.intToInt, hr]
  unfold execOp
  simp only [ho, hx, Sem.run_bind, h, Result.andThen_ok, Sem.run_pure]) next
theorem zfk {o : Oper} {rest : List Oper} {a : Act} (ty rt : TypeId) (x y : Operand) (k ky : IntKind) (m r : Int) (n : Nat) (hw : Region.wanted o (yielded ops a.tmps) = true) (ho : o.op = .binOp .shl ty x y rt) (hx : a.eval x = .int k m) (hy : a.eval y = .int ky (n : Int)) (hn : n ≤ k.bits)
  (hr : k.wrap (m * 2 ^ n) = r) (next : wpDet P ops C D rest (a.put o.dst (.int k r))) : wpDet P ops C D (o :: rest) a :=
 zaw _ hw (fun w _ => by
  have h3 : ¬ ((n : Int) < 0) := by omega
  have h4 : Op.shift .shl k m ky (n : Int) = pure (.int k r) := by
   unfold Op.shift
   rw [if_neg h3]
   simp only [Int.toNat_natCast, q158 hn, hr]
  have h5 : binOp .shl ty (.int k m) (.int ky (n : Int)) = Op.shift .shl k m ky (n : Int) := rfl
  unfold execOp
  simp only [ho, hx, hy, h5, h4]
  simp [eqGuard]) next
end
end
theorem shb_or8 (x0 x1 x2 x3 x4 x5 x6 x7 : Nat) (h0 : x0 < 256) (h1 : x1 < 256) (h2 : x2 < 256) (h3 : x3 < 256) (h4 : x4 < 256) (h5 : x5 < 256) (h6 : x6 < 256) (h7 : x7 < 256) :
  bits .or .u64 (bits .or .u64 (bits .or .u64 (bits .or .u64 (bits .or .u64 (bits .or .u64 (bits .or .u64 ((x0 : Int) * 72057594037927936) ((x1 : Int) * 281474976710656)) ((x2 : Int) * 1099511627776)) ((x3 : Int) * 4294967296)) ((x4 : Int) * 16777216)) ((x5 : Int) * 65536)) ((x6 : Int) * 256)) (x7 : Int) = qi (BitVec.ofNat 64 (256 * (256 * (256 * (256 * (256 * (256 * (256 * x0 + x1) + x2) + x3) + x4) + x5) + x6) + x7)) := by
 have a0 : (x0 : Int) * 72057594037927936 = ((72057594037927936 * x0 : Nat) : Int) := by omega
 have a1 : (x1 : Int) * 281474976710656 = ((281474976710656 * x1 : Nat) : Int) := by omega
 have a2 : (x2 : Int) * 1099511627776 = ((1099511627776 * x2 : Nat) : Int) := by omega
 have a3 : (x3 : Int) * 4294967296 = ((4294967296 * x3 : Nat) : Int) := by omega
 have a4 : (x4 : Int) * 16777216 = ((16777216 * x4 : Nat) : Int) := by omega
 have a5 : (x5 : Int) * 65536 = ((65536 * x5 : Nat) : Int) := by omega
 have a6 : (x6 : Int) * 256 = ((256 * x6 : Nat) : Int) := by omega
 have b1 : 72057594037927936 * x0 ||| 281474976710656 * x1 = 72057594037927936 * x0 + 281474976710656 * x1 := by
  have h := or_sum 56 (281474976710656 * x1) (x0) (by omega)
  have e : 2 ^ 56 * (x0) = 72057594037927936 * x0 := by omega
  rwa [e] at h
 have b2 : 72057594037927936 * x0 + 281474976710656 * x1 ||| 1099511627776 * x2 = 72057594037927936 * x0 + 281474976710656 * x1 + 1099511627776 * x2 := by
  have h := or_sum 48 (1099511627776 * x2) (256 * x0 + x1) (by omega)
  have e : 2 ^ 48 * (256 * x0 + x1) = 72057594037927936 * x0 + 281474976710656 * x1 := by omega
  rwa [e] at h
 have b3 : 72057594037927936 * x0 + 281474976710656 * x1 + 1099511627776 * x2 ||| 4294967296 * x3 = 72057594037927936 * x0 + 281474976710656 * x1 + 1099511627776 * x2 + 4294967296 * x3 := by
  have h := or_sum 40 (4294967296 * x3) (256 * (256 * x0 + x1) + x2) (by omega)
  have e : 2 ^ 40 * (256 * (256 * x0 + x1) + x2) = 72057594037927936 * x0 + 281474976710656 * x1 + 1099511627776 * x2 := by omega
  rwa [e] at h
 have b4 : 72057594037927936 * x0 + 281474976710656 * x1 + 1099511627776 * x2 + 4294967296 * x3 ||| 16777216 * x4 = 72057594037927936 * x0 + 281474976710656 * x1 + 1099511627776 * x2 + 4294967296 * x3 + 16777216 * x4 := by
  have h := or_sum 32 (16777216 * x4) (256 * (256 * (256 * x0 + x1) + x2) + x3) (by omega)
  have e : 2 ^ 32 * (256 * (256 * (256 * x0 + x1) + x2) + x3) = 72057594037927936 * x0 + 281474976710656 * x1 + 1099511627776 * x2 + 4294967296 * x3 := by omega
  rwa [e] at h
 have b5 : 72057594037927936 * x0 + 281474976710656 * x1 + 1099511627776 * x2 + 4294967296 * x3 + 16777216 * x4 ||| 65536 * x5 = 72057594037927936 * x0 + 281474976710656 * x1 + 1099511627776 * x2 + 4294967296 * x3 + 16777216 * x4 + 65536 * x5 := by
  have h := or_sum 24 (65536 * x5) (256 * (256 * (256 * (256 * x0 + x1) + x2) + x3) + x4) (by omega)
  have e : 2 ^ 24 * (256 * (256 * (256 * (256 * x0 + x1) + x2) + x3) + x4) = 72057594037927936 * x0 + 281474976710656 * x1 + 1099511627776 * x2 + 4294967296 * x3 + 16777216 * x4 := by omega
  rwa [e] at h
 have b6 : 72057594037927936 * x0 + 281474976710656 * x1 + 1099511627776 * x2 + 4294967296 * x3 + 16777216 * x4 + 65536 * x5 ||| 256 * x6 = 72057594037927936 * x0 + 281474976710656 * x1 + 1099511627776 * x2 + 4294967296 * x3 + 16777216 * x4 + 65536 * x5 + 256 * x6 := by
  have h := or_sum 16 (256 * x6) (256 * (256 * (256 * (256 * (256 * x0 + x1) + x2) + x3) + x4) + x5) (by omega)
  have e : 2 ^ 16 * (256 * (256 * (256 * (256 * (256 * x0 + x1) + x2) + x3) + x4) + x5) = 72057594037927936 * x0 + 281474976710656 * x1 + 1099511627776 * x2 + 4294967296 * x3 + 16777216 * x4 + 65536 * x5 := by omega
  rwa [e] at h
 have b7 : 72057594037927936 * x0 + 281474976710656 * x1 + 1099511627776 * x2 + 4294967296 * x3 + 16777216 * x4 + 65536 * x5 + 256 * x6 ||| x7 = 72057594037927936 * x0 + 281474976710656 * x1 + 1099511627776 * x2 + 4294967296 * x3 + 16777216 * x4 + 65536 * x5 + 256 * x6 + x7 := by
  have h := or_sum 8 (x7) (256 * (256 * (256 * (256 * (256 * (256 * x0 + x1) + x2) + x3) + x4) + x5) + x6) (by omega)
  have e : 2 ^ 8 * (256 * (256 * (256 * (256 * (256 * (256 * x0 + x1) + x2) + x3) + x4) + x5) + x6) = 72057594037927936 * x0 + 281474976710656 * x1 + 1099511627776 * x2 + 4294967296 * x3 + 16777216 * x4 + 65536 * x5 + 256 * x6 := by omega
  rwa [e] at h
 have e : 256 * (256 * (256 * (256 * (256 * (256 * (256 * x0 + x1) + x2) + x3) + x4) + x5) + x6) + x7 = 72057594037927936 * x0 + 281474976710656 * x1 + 1099511627776 * x2 + 4294967296 * x3 + 16777216 * x4 + 65536 * x5 + 256 * x6 + x7 := by omega
 rw [a0, a1, a2, a3, a4, a5, a6, or64 _ _ (by omega) (by omega), b1, or64 _ _ (by omega) (by omega), b2, or64 _ _ (by omega) (by omega), b3, or64 _ _ (by omega) (by omega), b4, or64 _ _ (by omega) (by omega), b5, or64 _ _ (by omega) (by omega), b6, or64 _ _ (by omega) (by omega), b7, e, qi_lit _ (by omega)]
/-- A word is read off eight bytes of a block. -/
theorem word_anyQ (c off len cap : Nat) (cs : List UInt8) (t : TypeId) (w : World) (hb : Blk w c (cs.map bval) t) (hl : off + 8 ≤ cs.length) (h4 : 8 ≤ len) :
  Calls Tryz.prog 143 #[.slice (some ⟨c, off, none⟩) len cap] w fun e w' => e = .returned (.int .u64 (qi (beQ cs off))) ∧ Below w.heap.size w w' := by
 have cc : ∀ j, j ≤ 7 → w.cell? ⟨c, off + j, none⟩ = some (.int .u8 ((cs.getD (off + j) 0).toNat : Int)) := fun j hj => by
  rw [hb.cell, zbg (by omega)]
 have c0 := cc 0 (by omega)
 have c1 := cc 1 (by omega)
 have c2 := cc 2 (by omega)
 have c3 := cc 3 (by omega)
 have c4 := cc 4 (by omega)
 have c5 := cc 5 (by omega)
 have c6 := cc 6 (by omega)
 have c7 := cc 7 (by omega)
 have d0 := UInt8.toNat_lt (cs.getD (off + 0) 0)
 have d1 := UInt8.toNat_lt (cs.getD (off + 1) 0)
 have d2 := UInt8.toNat_lt (cs.getD (off + 2) 0)
 have d3 := UInt8.toNat_lt (cs.getD (off + 3) 0)
 have d4 := UInt8.toNat_lt (cs.getD (off + 4) 0)
 have d5 := UInt8.toNat_lt (cs.getD (off + 5) 0)
 have d6 := UInt8.toNat_lt (cs.getD (off + 6) 0)
 have d7 := UInt8.toNat_lt (cs.getD (off + 7) 0)
 have HBE : Hid (beQ cs off = BitVec.ofNat 64 (256 * (256 * (256 * (256 * (256 * (256 * (256 * (cs.getD (off + 0) 0).toNat + (cs.getD (off + 1) 0).toNat) + (cs.getD (off + 2) 0).toNat) + (cs.getD (off + 3) 0).toNat) + (cs.getD (off + 4) 0).toNat) + (cs.getD (off + 5) 0).toNat) + (cs.getD (off + 6) 0).toNat) + (cs.getD (off + 7) 0).toNat)) := jh (by simp only [beQ, beN, Nat.mul_zero, q125])
 generalize (cs.getD (off + 0) 0).toNat = x0 at *
 generalize (cs.getD (off + 1) 0).toNat = x1 at *
 generalize (cs.getD (off + 2) 0).toNat = x2 at *
 generalize (cs.getD (off + 3) 0).toNat = x3 at *
 generalize (cs.getD (off + 4) 0).toNat = x4 at *
 generalize (cs.getD (off + 5) 0).toNat = x5 at *
 generalize (cs.getD (off + 6) 0).toNat = x6 at *
 generalize (cs.getD (off + 7) 0).toNat = x7 at *
 have hcl : c < w.heap.size := hb.lt
 clear cc hb hl
 have i0 : (0 : Int) < (len : Int) ∧ (1 : Int) < (len : Int) ∧ (2 : Int) < (len : Int) ∧ (3 : Int) < (len : Int) ∧ (4 : Int) < (len : Int) ∧ (5 : Int) < (len : Int) ∧ (6 : Int) < (len : Int) ∧ (7 : Int) < (len : Int) := by omega
 obtain ⟨i0, i1, i2, i3, i4, i5, i6, i7⟩ := i0
 have HC0 : Hid (∀ w' : World, Ext w w' → w'.cell? ⟨c, off + 0, none⟩ = some (.int .u8 (x0 : Int))) := jh (fun w' he => by rw [← c0]; exact he.cell (p := ⟨c, off + 0, none⟩) hcl)
 have HC1 : Hid (∀ w' : World, Ext w w' → w'.cell? ⟨c, off + 1, none⟩ = some (.int .u8 (x1 : Int))) := jh (fun w' he => by rw [← c1]; exact he.cell (p := ⟨c, off + 1, none⟩) hcl)
 have HC2 : Hid (∀ w' : World, Ext w w' → w'.cell? ⟨c, off + 2, none⟩ = some (.int .u8 (x2 : Int))) := jh (fun w' he => by rw [← c2]; exact he.cell (p := ⟨c, off + 2, none⟩) hcl)
 have HC3 : Hid (∀ w' : World, Ext w w' → w'.cell? ⟨c, off + 3, none⟩ = some (.int .u8 (x3 : Int))) := jh (fun w' he => by rw [← c3]; exact he.cell (p := ⟨c, off + 3, none⟩) hcl)
 have HC4 : Hid (∀ w' : World, Ext w w' → w'.cell? ⟨c, off + 4, none⟩ = some (.int .u8 (x4 : Int))) := jh (fun w' he => by rw [← c4]; exact he.cell (p := ⟨c, off + 4, none⟩) hcl)
 have HC5 : Hid (∀ w' : World, Ext w w' → w'.cell? ⟨c, off + 5, none⟩ = some (.int .u8 (x5 : Int))) := jh (fun w' he => by rw [← c5]; exact he.cell (p := ⟨c, off + 5, none⟩) hcl)
 have HC6 : Hid (∀ w' : World, Ext w w' → w'.cell? ⟨c, off + 6, none⟩ = some (.int .u8 (x6 : Int))) := jh (fun w' he => by rw [← c6]; exact he.cell (p := ⟨c, off + 6, none⟩) hcl)
 have HC7 : Hid (∀ w' : World, Ext w w' → w'.cell? ⟨c, off + 7, none⟩ = some (.int .u8 (x7 : Int))) := jh (fun w' he => by rw [← c7]; exact he.cell (p := ⟨c, off + 7, none⟩) hcl)
 clear c0 c1 c2 c3 c4 c5 c6 c7
 go_enter Tryz.func143, Tryz.ntmps143
 go_wp2_with fail
 refine zbb (by kernel_rfl) (by kernel_rfl) ?_
 refine zas _ (.slice (some ⟨c, off, none⟩) len cap) (by rfl) rfl rfl ?_
 simp only [nm]
 refine zey _ _ _ _ c off len cap 0 (by rfl) rfl rfl rfl q107 (by omega) q115 ?_
 simp only [nm]
 refine sdl c (off + 0) (.int .u8 (x0 : Int)) (fun w' hw => HC0.out w' hw) Tryz.isAgg5 ?_
 simp only [nm]
 refine det_conv _ _ _ .u8 .u64 (x0 : Int) (x0 : Int) (by rfl) rfl rfl rfl q156 (w64 (by omega)) ?_
 simp only [nm]
 refine zfk _ _ _ _ .u64 .u64 (x0 : Int) ((x0 : Int) * 72057594037927936) 56 (by rfl) rfl rfl rfl (by decide) (by rw [IntKind.wrap_u64]; omega) ?_
 simp only [nm]
 refine zas _ (.slice (some ⟨c, off, none⟩) len cap) (by rfl) rfl rfl ?_
 simp only [nm]
 refine zey _ _ _ _ c off len cap 1 (by rfl) rfl rfl rfl q107 (by omega) q115 ?_
 simp only [nm]
 refine sdl c (off + 1) (.int .u8 (x1 : Int)) (fun w' hw => HC1.out w' hw) Tryz.isAgg5 ?_
 simp only [nm]
 refine det_conv _ _ _ .u8 .u64 (x1 : Int) (x1 : Int) (by rfl) rfl rfl rfl q156 (w64 (by omega)) ?_
 simp only [nm]
 refine zfk _ _ _ _ .u64 .u64 (x1 : Int) ((x1 : Int) * 281474976710656) 48 (by rfl) rfl rfl rfl (by decide) (by rw [IntKind.wrap_u64]; omega) ?_
 simp only [nm]
 refine det_or _ _ _ _ _ _ _ (bits .or .u64 ((x0 : Int) * 72057594037927936) ((x1 : Int) * 281474976710656)) (by rfl) rfl rfl rfl rfl ?_
 simp only [nm]
 refine zas _ (.slice (some ⟨c, off, none⟩) len cap) (by rfl) rfl rfl ?_
 simp only [nm]
 refine zey _ _ _ _ c off len cap 2 (by rfl) rfl rfl rfl q107 (by omega) q115 ?_
 simp only [nm]
 refine sdl c (off + 2) (.int .u8 (x2 : Int)) (fun w' hw => HC2.out w' hw) Tryz.isAgg5 ?_
 simp only [nm]
 refine det_conv _ _ _ .u8 .u64 (x2 : Int) (x2 : Int) (by rfl) rfl rfl rfl q156 (w64 (by omega)) ?_
 simp only [nm]
 refine zfk _ _ _ _ .u64 .u64 (x2 : Int) ((x2 : Int) * 1099511627776) 40 (by rfl) rfl rfl rfl (by decide) (by rw [IntKind.wrap_u64]; omega) ?_
 simp only [nm]
 refine det_or _ _ _ _ _ _ _ (bits .or .u64 (bits .or .u64 ((x0 : Int) * 72057594037927936) ((x1 : Int) * 281474976710656)) ((x2 : Int) * 1099511627776)) (by rfl) rfl rfl rfl rfl ?_
 simp only [nm]
 refine zas _ (.slice (some ⟨c, off, none⟩) len cap) (by rfl) rfl rfl ?_
 simp only [nm]
 refine zey _ _ _ _ c off len cap 3 (by rfl) rfl rfl rfl q107 (by omega) q115 ?_
 simp only [nm]
 refine sdl c (off + 3) (.int .u8 (x3 : Int)) (fun w' hw => HC3.out w' hw) Tryz.isAgg5 ?_
 simp only [nm]
 refine det_conv _ _ _ .u8 .u64 (x3 : Int) (x3 : Int) (by rfl) rfl rfl rfl q156 (w64 (by omega)) ?_
 simp only [nm]
 refine zfk _ _ _ _ .u64 .u64 (x3 : Int) ((x3 : Int) * 4294967296) 32 (by rfl) rfl rfl rfl (by decide) (by rw [IntKind.wrap_u64]; omega) ?_
 simp only [nm]
 refine det_or _ _ _ _ _ _ _ (bits .or .u64 (bits .or .u64 (bits .or .u64 ((x0 : Int) * 72057594037927936) ((x1 : Int) * 281474976710656)) ((x2 : Int) * 1099511627776)) ((x3 : Int) * 4294967296)) (by rfl) rfl rfl rfl rfl ?_
 simp only [nm]
 refine zas _ (.slice (some ⟨c, off, none⟩) len cap) (by rfl) rfl rfl ?_
 simp only [nm]
 refine zey _ _ _ _ c off len cap 4 (by rfl) rfl rfl rfl q107 (by omega) q115 ?_
 simp only [nm]
 refine sdl c (off + 4) (.int .u8 (x4 : Int)) (fun w' hw => HC4.out w' hw) Tryz.isAgg5 ?_
 simp only [nm]
 refine det_conv _ _ _ .u8 .u64 (x4 : Int) (x4 : Int) (by rfl) rfl rfl rfl q156 (w64 (by omega)) ?_
 simp only [nm]
 refine zfk _ _ _ _ .u64 .u64 (x4 : Int) ((x4 : Int) * 16777216) 24 (by rfl) rfl rfl rfl (by decide) (by rw [IntKind.wrap_u64]; omega) ?_
 simp only [nm]
 refine det_or _ _ _ _ _ _ _ (bits .or .u64 (bits .or .u64 (bits .or .u64 (bits .or .u64 ((x0 : Int) * 72057594037927936) ((x1 : Int) * 281474976710656)) ((x2 : Int) * 1099511627776)) ((x3 : Int) * 4294967296)) ((x4 : Int) * 16777216)) (by rfl) rfl rfl rfl rfl ?_
 simp only [nm]
 refine zas _ (.slice (some ⟨c, off, none⟩) len cap) (by rfl) rfl rfl ?_
 simp only [nm]
 refine zey _ _ _ _ c off len cap 5 (by rfl) rfl rfl rfl q107 (by omega) q115 ?_
 simp only [nm]
 refine sdl c (off + 5) (.int .u8 (x5 : Int)) (fun w' hw => HC5.out w' hw) Tryz.isAgg5 ?_
 simp only [nm]
 refine det_conv _ _ _ .u8 .u64 (x5 : Int) (x5 : Int) (by rfl) rfl rfl rfl q156 (w64 (by omega)) ?_
 simp only [nm]
 refine zfk _ _ _ _ .u64 .u64 (x5 : Int) ((x5 : Int) * 65536) 16 (by rfl) rfl rfl rfl (by decide) (by rw [IntKind.wrap_u64]; omega) ?_
 simp only [nm]
 refine det_or _ _ _ _ _ _ _ (bits .or .u64 (bits .or .u64 (bits .or .u64 (bits .or .u64 (bits .or .u64 ((x0 : Int) * 72057594037927936) ((x1 : Int) * 281474976710656)) ((x2 : Int) * 1099511627776)) ((x3 : Int) * 4294967296)) ((x4 : Int) * 16777216)) ((x5 : Int) * 65536)) (by rfl) rfl rfl rfl rfl ?_
 simp only [nm]
 refine zas _ (.slice (some ⟨c, off, none⟩) len cap) (by rfl) rfl rfl ?_
 simp only [nm]
 refine zey _ _ _ _ c off len cap 6 (by rfl) rfl rfl rfl q107 (by omega) q115 ?_
 simp only [nm]
 refine sdl c (off + 6) (.int .u8 (x6 : Int)) (fun w' hw => HC6.out w' hw) Tryz.isAgg5 ?_
 simp only [nm]
 refine det_conv _ _ _ .u8 .u64 (x6 : Int) (x6 : Int) (by rfl) rfl rfl rfl q156 (w64 (by omega)) ?_
 simp only [nm]
 refine zfk _ _ _ _ .u64 .u64 (x6 : Int) ((x6 : Int) * 256) 8 (by rfl) rfl rfl rfl (by decide) (by rw [IntKind.wrap_u64]; omega) ?_
 simp only [nm]
 refine det_or _ _ _ _ _ _ _ (bits .or .u64 (bits .or .u64 (bits .or .u64 (bits .or .u64 (bits .or .u64 (bits .or .u64 ((x0 : Int) * 72057594037927936) ((x1 : Int) * 281474976710656)) ((x2 : Int) * 1099511627776)) ((x3 : Int) * 4294967296)) ((x4 : Int) * 16777216)) ((x5 : Int) * 65536)) ((x6 : Int) * 256)) (by rfl) rfl rfl rfl rfl ?_
 simp only [nm]
 refine zas _ (.slice (some ⟨c, off, none⟩) len cap) (by rfl) rfl rfl ?_
 simp only [nm]
 refine zey _ _ _ _ c off len cap 7 (by rfl) rfl rfl rfl q107 (by omega) q115 ?_
 simp only [nm]
 refine sdl c (off + 7) (.int .u8 (x7 : Int)) (fun w' hw => HC7.out w' hw) Tryz.isAgg5 ?_
 simp only [nm]
 refine det_conv _ _ _ .u8 .u64 (x7 : Int) (x7 : Int) (by rfl) rfl rfl rfl q156 (w64 (by omega)) ?_
 simp only [nm]
 refine det_or _ _ _ _ _ _ _ (bits .or .u64 (bits .or .u64 (bits .or .u64 (bits .or .u64 (bits .or .u64 (bits .or .u64 (bits .or .u64 ((x0 : Int) * 72057594037927936) ((x1 : Int) * 281474976710656)) ((x2 : Int) * 1099511627776)) ((x3 : Int) * 4294967296)) ((x4 : Int) * 16777216)) ((x5 : Int) * 65536)) ((x6 : Int) * 256)) (x7 : Int)) (by rfl) rfl rfl rfl rfl ?_
 simp only [nm]
 refine zbi _ (.int .u64 (bits .or .u64 (bits .or .u64 (bits .or .u64 (bits .or .u64 (bits .or .u64 (bits .or .u64 (bits .or .u64 ((x0 : Int) * 72057594037927936) ((x1 : Int) * 281474976710656)) ((x2 : Int) * 1099511627776)) ((x3 : Int) * 4294967296)) ((x4 : Int) * 16777216)) ((x5 : Int) * 65536)) ((x6 : Int) * 256)) (x7 : Int))) (by rfl) rfl rfl ?_
 simp only [nm]
 refine zao (fun w9 hw9 => ?_)
 go_wp2_with fail
 go_ret
 exact ⟨by rw [HBE.out, ← shb_or8 x0 x1 x2 x3 x4 x5 x6 x7 d0 d1 d2 d3 d4 d5 d6 d7]; rfl, hw9⟩
def put8 (cs : List UInt8) (off : Nat) (x : Q64) : List UInt8 := (((((((cs.set off (UInt8.ofNat (x.toNat / 72057594037927936))).set (off + 1) (UInt8.ofNat (x.toNat / 281474976710656))).set (off + 2) (UInt8.ofNat (x.toNat / 1099511627776))).set (off + 3) (UInt8.ofNat (x.toNat / 4294967296))).set (off + 4) (UInt8.ofNat (x.toNat / 16777216))).set (off + 5) (UInt8.ofNat (x.toNat / 65536))).set (off + 6) (UInt8.ofNat (x.toNat / 256))).set (off + 7) (UInt8.ofNat x.toNat)
theorem put8_length (cs : List UInt8) (off : Nat) (x : Q64) : (put8 cs off x).length = cs.length := by simp [put8]
theorem zdw (n : Nat) : bval (UInt8.ofNat n) = .int .u8 ((n : Int) % 256) := by
 unfold bval
 rw [UInt8.toNat_ofNat']
 congr 1
/-- A word is laid over eight bytes of a block. -/
theorem put_anyQ (c off len cap : Nat) (cs : List UInt8) (x : Q64) (t : TypeId) (w : World) (hb : Blk w c (cs.map bval) t) (hl : off + 8 ≤ cs.length) (h4 : 8 ≤ len) :
  Calls Tryz.prog 140 #[.slice (some ⟨c, off, none⟩) len cap, .int .u64 (qi x)] w fun e w' => e = .returned (.tuple #[]) ∧ Blk w' c ((put8 cs off x).map bval) t ∧ w.grownBy w' (some c) := by
 have cc : ∀ j, j ≤ 7 → w.cell? ⟨c, off + j, none⟩ = some (.int .u8 ((cs.getD (off + j) 0).toNat : Int)) := fun j hj => by
  rw [hb.cell, zbg (by omega)]
 have ff : ∀ j, w.frozen? ⟨c, off + j, none⟩ = false := fun j => hb.free _
 have c0 := cc 0 (by omega)
 have c1 := cc 1 (by omega)
 have c2 := cc 2 (by omega)
 have c3 := cc 3 (by omega)
 have c4 := cc 4 (by omega)
 have c5 := cc 5 (by omega)
 have c6 := cc 6 (by omega)
 have c7 := cc 7 (by omega)
 have f0 := ff 0
 have f1 := ff 1
 have f2 := ff 2
 have f3 := ff 3
 have f4 := ff 4
 have f5 := ff 5
 have f6 := ff 6
 have f7 := ff 7
 simp only [Nat.add_zero] at c0 f0
 generalize (cs.getD off 0).toNat = x0 at *
 generalize (cs.getD (off + 1) 0).toNat = x1 at *
 generalize (cs.getD (off + 2) 0).toNat = x2 at *
 generalize (cs.getD (off + 3) 0).toNat = x3 at *
 generalize (cs.getD (off + 4) 0).toNat = x4 at *
 generalize (cs.getD (off + 5) 0).toNat = x5 at *
 generalize (cs.getD (off + 6) 0).toNat = x6 at *
 generalize (cs.getD (off + 7) 0).toNat = x7 at *
 have HB := jh hb
 have HL := jh hl
 have hr := qi_range x
 have HX : Hid (qi x = (x.toNat : Int)) := jh rfl
 clear cc ff hb hl
 have i0 : (0 : Int) < (len : Int) ∧ (1 : Int) < (len : Int) ∧ (2 : Int) < (len : Int) ∧ (3 : Int) < (len : Int) ∧ (4 : Int) < (len : Int) ∧ (5 : Int) < (len : Int) ∧ (6 : Int) < (len : Int) ∧ (7 : Int) < (len : Int) := by omega
 obtain ⟨i0, i1, i2, i3, i4, i5, i6, i7⟩ := i0
 have b0 : bval (UInt8.ofNat (x.toNat / 72057594037927936)) = .int .u8 (qi x / 72057594037927936) := by rw [zdw]; congr 1; unfold qi; have := x.isLt; omega
 have b1 : bval (UInt8.ofNat (x.toNat / 281474976710656)) = .int .u8 (qi x / 281474976710656 % 256) := by rw [zdw]; congr 1
 have b2 : bval (UInt8.ofNat (x.toNat / 1099511627776)) = .int .u8 (qi x / 1099511627776 % 256) := by rw [zdw]; congr 1
 have b3 : bval (UInt8.ofNat (x.toNat / 4294967296)) = .int .u8 (qi x / 4294967296 % 256) := by rw [zdw]; congr 1
 have b4 : bval (UInt8.ofNat (x.toNat / 16777216)) = .int .u8 (qi x / 16777216 % 256) := by rw [zdw]; congr 1
 have b5 : bval (UInt8.ofNat (x.toNat / 65536)) = .int .u8 (qi x / 65536 % 256) := by rw [zdw]; congr 1
 have b6 : bval (UInt8.ofNat (x.toNat / 256)) = .int .u8 (qi x / 256 % 256) := by rw [zdw]; congr 1
 have b7 : bval (UInt8.ofNat x.toNat) = .int .u8 (qi x % 256) := by rw [zdw]; congr 1
 have hP : (put8 cs off x).map bval = ((((((((cs.map bval).set off (.int .u8 (qi x / 72057594037927936))).set (off + 1) (.int .u8 (qi x / 281474976710656 % 256))).set (off + 2) (.int .u8 (qi x / 1099511627776 % 256))).set (off + 3) (.int .u8 (qi x / 4294967296 % 256))).set (off + 4) (.int .u8 (qi x / 16777216 % 256))).set (off + 5) (.int .u8 (qi x / 65536 % 256))).set (off + 6) (.int .u8 (qi x / 256 % 256))).set (off + 7) (.int .u8 (qi x % 256)) := by
  unfold put8
  rw [q127, q127, q127, q127, q127, q127, q127, q127, b0, b1, b2, b3, b4, b5, b6, b7]
 have HP := jh hP
 clear hP b0 b1 b2 b3 b4 b5 b6 b7
 generalize qi x = z at *
 go_enter Tryz.func140, Tryz.ntmps140
 go_wp2_with fail
 refine bodyPost_end (results_none rfl _ _ _) rfl ?_
 refine ⟨rfl, ?_, ?_⟩
 ·rw [HP.out]
  exact (((((((HB.out.set _ _).set _ _).set _ _).set _ _).set _ _).set _ _).set _ _).set _ _
 ·exact zbs (zbs (zbs (zbs (zbs (zbs (zbs (zbs (zce w _) _ _) _ _) _ _) _ _) _ _) _ _) _ _) _ _
theorem Tryz.arr26 : (Tryz.prog.info? 26).map (·.size) = some 64 := by kernel_rfl
theorem zcg {l : List UInt8} (h : l.length = 64) : (Tryz.prog.info? 26).map (·.size) = some (l.map bval).length := by rw [q101, h]; exact Tryz.arr26
theorem Tryz.arr135 : (Tryz.prog.info? 135).map (·.size) = some 8 := by kernel_rfl
theorem Tryz.arr137 : (Tryz.prog.info? 137).map (·.size) = some 80 := by kernel_rfl
def zarr128 : Array Value := (ints .u8 (List.replicate 128 0)).toArray
@[simp] theorem zero_block128 (w : World) : (zeroValue 160).run Tryz.prog w = .ok (.agg zarr128) w := by kernel_rfl
theorem byte_cells : Tryz.prog.cellsOf 5 = 1 := by kernel_rfl
theorem Tryz.arr154 : (Tryz.prog.info? 154).map (·.size) = some 8 := by kernel_rfl
theorem Tryz.arr160 : (Tryz.prog.info? 160).map (·.size) = some 128 := by kernel_rfl
theorem boxes3uQ (w : World) (a b d : List Value) (s t u : TypeId) : Blk (((w.alloc (.cells a.toArray s)).alloc (.cells b.toArray t)).alloc (.cells d.toArray u)) w.heap.size a s ∧ Blk (((w.alloc (.cells a.toArray s)).alloc (.cells b.toArray t)).alloc (.cells d.toArray u)) (w.heap.size + 1) b t ∧
  Blk (((w.alloc (.cells a.toArray s)).alloc (.cells b.toArray t)).alloc (.cells d.toArray u)) (w.heap.size + 1 + 1) d u ∧ Below w.heap.size w (((w.alloc (.cells a.toArray s)).alloc (.cells b.toArray t)).alloc (.cells d.toArray u)) := by
 obtain ⟨h1, h2, h3⟩ := boxes2 w a b s t
 refine ⟨h1.alloc _, h2.alloc _, ?_, Ext.trans h3 (Ext.alloc _ _)⟩
 have := Blk.made ((w.alloc (.cells a.toArray s)).alloc (.cells b.toArray t)) d u
 simpa using this
theorem cut_arrQ {t : TypeId} {n : Nat} {e : TypeId} (ht : Tryz.prog.underlying t = some (.array n e)) (hc : Tryz.prog.cellsOf e = 1) (h : ∀ w, (sizeOf e).run Tryz.prog w = .ok 1 w) (w : World) (A p : Nat) (hp : p < n) :
  (Instr.sliceAt t (.pointer (some ⟨A, 0, none⟩)) (some (.int .i64 (p : Int))) none none).run Tryz.prog w = .ok (.slice (some ⟨A, p, none⟩) (n - p) (n - p)) w := by
 have e1 : Tryz.prog.arrayLen t = n := by unfold Program.arrayLen; rw [ht]
 have e2 : Tryz.prog.elem t = e := by unfold Program.elem; rw [ht]
 rw [run_sliceAt_array_l w t ⟨A, 0, none⟩ (by rw [e1, e2]; exact ht) .i64 (p : Int) (by omega) (by rw [e1]; omega), e2, h, e1]
 simp [slicedAt, Addr.add, show ¬ n = p by omega]
 exact fun h => h.symm
theorem schedule_anyQ (cs : List UInt8) (w : World) (hl : cs.length = 128) :
  Calls Tryz.prog 138 #[.agg (cs.map bval).toArray] w fun e w' => e = .returned (.agg (ints .u64 (qs (qSch cs 0 64))).toArray) ∧ Below w.heap.size w w' := by
 have HL := jh hl
 have HB := jh (boxes3uQ w (cs.map bval) (ints .u64 (List.replicate 80 0)) (ints .u64 (List.replicate 80 0)) 160 137 137)
 clear hl
 go_enter Tryz.func138, Tryz.ntmps138
 go_wp2_with fail
 obtain ⟨H1, H2, H3, HE⟩ := HB.out
 change Code.wp _ _ _ _ (((w.alloc (.cells (cs.map bval).toArray 160)).alloc (.cells (ints .u64 (List.replicate 80 0)).toArray 137)).alloc (.cells (ints .u64 (List.replicate 80 0)).toArray 137))
 generalize (((w.alloc (.cells (cs.map bval).toArray 160)).alloc (.cells (ints .u64 (List.replicate 80 0)).toArray 137)).alloc (.cells (ints .u64 (List.replicate 80 0)).toArray 137)) = w3 at *
 obtain ⟨A, hA⟩ : ∃ A, A = w.heap.size := ⟨_, rfl⟩
 rw [← hA] at H1 H2 H3 ⊢
 have hA2 : w.heap.size ≤ A := by omega
 have H1 := jh H1
 have H2 := jh H2
 have H3 := jh H3
 have HE : Hid (Ext w w3) := jh HE
 clear hA HB
 go_loopw [8] (fun iv wr => ∃ (k : Nat), k ≤ 16 ∧ iv = .int .i64 (k : Int) ∧ Blk wr A (cs.map bval) 160 ∧ Blk wr (A + 1) (ints .u64 (List.replicate 80 0)) 137 ∧ Blk wr (A + 1 + 1) (ints .u64 (qs (qTop cs 0 k))) 137 ∧ Ext w wr) (fun iv _ => 16 - (intOf iv).toNat)
 case atStart => exact ⟨0, by omega, rfl, H1.out, H2.out, by rw [qTop, qs_zeros]; exact H3.out, HE.out⟩
 case round =>
  clear H1 H2 H3 HE
  obtain ⟨k, hk, rfl, hb1, hb2, hb3, hbel⟩ := hrel
  have k0 : (0 : Int) ≤ (k : Int) := Int.natCast_nonneg _
  have hwl := qTop_length cs 0 k
  by_cases hlk : k < 16
  ·have k1 : (k : Int) < 16 := by omega
   have k64 : (k : Int) < 80 := by omega
   have e1 := hb3.cell k
   rw [zan (by rw [zay]; omega)] at e1
   have f1 := hb3.free k
   generalize (qs (qTop cs 0 k)).getD k 0 = u at e1
   have hs := cut_arrQ q163 byte_cells q115 wr A (8 * k) (by omega)
   have e4 : ((8 * k : Nat) : Int) = 8 * (k : Int) := by omega
   rw [e4] at hs
   have HB1 := jh hb1
   have HB2 := jh hb2
   have HB3 := jh hb3
   have HE := jh hbel
   have HW := jh (word_anyQ A (8 * k) (128 - 8 * k) (128 - 8 * k) cs 160 wr hb1 (by have := HL.out; omega) (by omega))
   clear hb1 hb2 hb3 hbel e4
   go_wp2_with fail
   refine HW.out.mono ?_
   rintro e w4 ⟨rfl, hb⟩
   have e1 : w4.cell? ⟨A + 1 + 1, k, none⟩ = some (.int .u64 u) := by rw [← e1]; exact hb.cell (p := ⟨A + 1 + 1, k, none⟩) HB3.out.lt
   have HB1 := xb HB1 hb
   have HB2 := xb HB2 hb
   have HB3 := xb HB3 hb
   have HE := xt HE hb
   have f1 := HB3.out.free k
   clear hb HW
   have HST : Hid (qs (qTop cs 0 (k + 1)) = (qs (qTop cs 0 k)).set k (qi (beQ cs (8 * k)))) := jh (by rw [qs_set, qTop]; simp)
   generalize qi (beQ cs (8 * k)) = z at *
   go_wp2_with fail
   go_roundw
   case rel =>
    refine ⟨k + 1, by omega, by go_num, HB1.out.far (by simp <;> omega) _, HB2.out.far (by simp) _, ?_, Below.setCell HE.out (by simp <;> omega) _⟩
    rw [HST.out]
    exact HB3.out.seti k _
   case measure => simp [intOf]; omega
  ·have hk16 : k = 16 := by omega
   have hk17 : (k : Int) = 16 := by omega
   rw [hk17]
   clear hk17
   subst hk16
   have hw0 : qTop cs 0 16 = qSch cs 0 0 := rfl
   rw [hw0] at hb3
   have H1 := jh hb1
   have H2 := jh hb2
   have H3 := jh hb3
   have HE := jh hbel
   clear hb1 hb2 hb3 hbel hwl hw0
   go_wp2_with fail
   obtain ⟨wo, rfl⟩ : ∃ wo : World, wo = wr := ⟨_, rfl⟩
   go_loopw [5] (fun iv wr => ∃ (q : Nat), q ≤ 64 ∧ iv = .int .i64 ((16 + q : Nat) : Int) ∧ Blk wr (A + 1) (ints .u64 (List.replicate 80 0)) 137 ∧ Blk wr (A + 1 + 1) (ints .u64 (qs (qSch cs 0 q))) 137 ∧ Ext w wr) (fun iv _ => 80 - (intOf iv).toNat)
   case atStart => exact ⟨0, by omega, rfl, H2.out, H3.out, HE.out⟩
   case round =>
    clear H1 H2 H3 HE
    obtain ⟨q, hq, rfl, hb2, hb3, hbel⟩ := hrel
    have hwl := zdj cs 0 q
    by_cases hlq : q < 64
    ·obtain ⟨i, hi⟩ : ∃ i : Nat, i = 16 + q := ⟨_, rfl⟩
     rw [← hi]
     have i0 : (16 : Int) ≤ (i : Int) := by omega
     have i1 : (i : Int) < 80 := by omega
     obtain ⟨j16, hj16⟩ : ∃ j : Nat, j = i - 16 := ⟨_, rfl⟩
     obtain ⟨j15, hj15⟩ : ∃ j : Nat, j = i - 15 := ⟨_, rfl⟩
     obtain ⟨j7, hj7⟩ : ∃ j : Nat, j = i - 7 := ⟨_, rfl⟩
     obtain ⟨j2, hj2⟩ : ∃ j : Nat, j = i - 2 := ⟨_, rfl⟩
     have g16 : (i : Int) - 16 = (j16 : Int) := by omega
     have g15 : (i : Int) - 15 = (j15 : Int) := by omega
     have g7 : (i : Int) - 7 = (j7 : Int) := by omega
     have g2 : (i : Int) - 2 = (j2 : Int) := by omega
     have l16 : (j16 : Int) < 80 := by omega
     have l15 : (j15 : Int) < 80 := by omega
     have l7 : (j7 : Int) < 80 := by omega
     have l2 : (j2 : Int) < 80 := by omega
     have e16 := hb3.cell j16
     rw [zan (by rw [zay]; omega), zen] at e16
     have e15 := hb3.cell j15
     rw [zan (by rw [zay]; omega), zen] at e15
     have e7 := hb3.cell j7
     rw [zan (by rw [zay]; omega), zen] at e7
     have e2 := hb3.cell j2
     rw [zan (by rw [zay]; omega), zen] at e2
     have e0 := hb3.cell i
     rw [zan (by rw [zay]; omega), zen] at e0
     have f0 := hb3.free i
     have HST : Hid (qSch cs 0 (q + 1) = (qSch cs 0 q).set i (((qSch cs 0 q).getD j2 0#64 |> tg1) + (qSch cs 0 q).getD j7 0#64 + tg0 ((qSch cs 0 q).getD j15 0#64) + (qSch cs 0 q).getD j16 0#64)) := jh (by
      rw [hi, hj16, hj15, hj7, hj2, hi, qSch, qNext]
      congr 1
      ac_rfl)
     generalize (qSch cs 0 q).getD j16 0#64 = y16 at *
     generalize (qSch cs 0 q).getD j15 0#64 = y15 at *
     generalize (qSch cs 0 q).getD j7 0#64 = y7 at *
     generalize (qSch cs 0 q).getD j2 0#64 = y2 at *
     generalize (qSch cs 0 q).getD i 0#64 = y0 at *
     have T1 := jh (fun w => zem y15 1 (by omega) (by omega) w)
     have T2 := jh (fun w => zem y15 8 (by omega) (by omega) w)
     have T3 := jh (fun w => zem y2 19 (by omega) (by omega) w)
     have T4 := jh (fun w => zem y2 61 (by omega) (by omega) w)
     have HB2 := jh hb2
     have HB3 := jh hb3
     have HE := jh hbel
     have HI := jh hi
     clear hb2 hb3 hbel hwl hi hj16 hj15 hj7 hj2 hq
     go_wp2_with fail
     go_region
     go_wp2_with fail
     refine (T1.out _).mono ?_
     rintro e w' ⟨rfl, rfl⟩
     go_wp2_with fail
     refine (T2.out _).mono ?_
     rintro e w' ⟨rfl, rfl⟩
     go_wp2_with fail
     refine (T3.out _).mono ?_
     rintro e w' ⟨rfl, rfl⟩
     go_wp2_with fail
     refine (T4.out _).mono ?_
     rintro e w' ⟨rfl, rfl⟩
     go_wp2_with fail
     have x1 : bits .xor .u64 (bits .xor .u64 (qi (rotq y15 1)) (qi (rotq y15 8))) (qi y15 / 128) = qi (tg0 y15) := by rw [show (128 : Int) = 2 ^ 7 from rfl, qi_shr, zed, zed]; rfl
     have x2 : bits .xor .u64 (bits .xor .u64 (qi (rotq y2 19)) (qi (rotq y2 61))) (qi y2 / 64) = qi (tg1 y2) := by rw [show (64 : Int) = 2 ^ 6 from rfl, qi_shr, zed, zed]; rfl
     have HX1 := jh x1
     have HX2 := jh x2
     clear x1 x2 T1 T2 T3 T4
     rw [HX1.out, HX2.out]
     have HWS : Hid (IntKind.u64.wrap (IntKind.u64.wrap (IntKind.u64.wrap (qi (tg1 y2) + qi y7) + qi (tg0 y15)) + qi y16) = qi (tg1 y2 + y7 + tg0 y15 + y16)) := jh (by rw [zcy, zcy, zcy])
     go_wp2_with fail
     go_region
     go_wp2_with fail
     go_roundw
     case rel =>
      refine ⟨q + 1, by omega, by have := HI.out; subst this; go_num, (HB2.out.far (by simp) _).drewN 2, ?_, (Below.setCell HE.out (by simp <;> omega) _).drew.drew⟩
      rw [HST.out, ← qs_set, ← HWS.out]
      exact (HB3.out.seti i _).drewN 2
     case measure => simp [intOf]; omega
    ·have hk48 : q = 64 := by omega
     subst hk48
     have H2 := jh hb2
     have H3 := jh hb3
     have HE := jh hbel
     clear hb2 hb3 hbel hwl
     have HIr : Hid ((Tryz.prog.info? 137).map (·.size) = some (ints .u64 (qs (qSch cs 0 64))).length) := jh (by rw [zaa, zay, zdj]; exact Tryz.arr137)
     have HLE : Hid ((ints .u64 (qs (qSch cs 0 64))).length = (ints .u64 (List.replicate 80 0)).length) := jh (by rw [zaa, zay, zdj, zaa, q133])
     go_wp2_with (first | (refine slb (A + 1 + 1) H3.out q167 HIr.out ?_) | (refine ssb (A + 1) (ints .u64 (qs (qSch cs 0 64))) H2.out HLE.out HIr.out (zaj _ _) ?_; intro w4 hb4 hg4))
     refine bodyPost_ret (zbc rfl _ (A + 1) _ _ _ _ rfl hb4 q167 HIr.out) rfl ?_
     exact ⟨rfl, zab HE.out hg4 (by omega)⟩
section
theorem blk_q {w : World} {c : Nat} {l : List Q64} {t : TypeId} (h : Blk w c (ints .u64 (qs l)) t) {j : Nat} (hj : j < l.length) : w.cell? ⟨c, j, none⟩ = some (.int .u64 (qi (l.getD j 0#64))) := by
 rw [h.cell, zan (by rw [zay]; exact hj), zen]
section
variable {P : Program} {ops : Array Oper} {C : World → Prop} {D : Act → Prop}
theorem qi_not (x : Q64) : bits .xor .u64 18446744073709551615 (qi x) = qi (~~~x) := by
 have e : (18446744073709551615 : Int) = qi (BitVec.allOnes 64) := rfl
 rw [e, zed]
 rw [BitVec.allOnes_xor]
theorem det_qinot {o : Oper} {rest : List Oper} {a : Act} (ty : TypeId) (x : Operand) (m : Q64) (hw : Region.wanted o (yielded ops a.tmps) = true) (ho : o.op = .unOp .xor ty x) (hx : a.eval x = .int .u64 (qi m))
  (next : wpDet P ops C D rest (a.put o.dst (.int .u64 (qi (~~~m))))) : wpDet P ops C D (o :: rest) a :=
 zaw _ hw (fun w _ => by
  have e := qi_not m
  have h1 : (Op.intBits .xor .u64 18446744073709551615 (qi m)) = pure (.int .u64 (bits .xor .u64 18446744073709551615 (qi m))) := rfl
  have h2 : Op.unary .xor (.int .u64 (qi m)) = Op.intBits .xor .u64 18446744073709551615 (qi m) := rfl
  unfold execOp
  simp only [ho, hx, h2, h1, e]
  simp) next
end
end
section
section
variable {P : Program} {a : Act} {w : World} {Q : Exit → Act → World → Prop}
theorem Exit.jump_mono {l : Nat} {J J' : Act → World → Prop} (h : ∀ a w, J a w → J' a w) : ∀ {e : Exit} {a : Act} {w : World}, Exit.jump l J Q e a w → Exit.jump l J' Q e a w
 | .goto _, _, _, hh => ⟨hh.1, h _ _ hh.2⟩
 | .normal, _, _, hh => hh
 | .exit _, _, _, hh => hh
 | .ret, _, _, hh => hh
 | .panic _, _, _, hh => hh
 | .outgrown, _, _, hh => hh
theorem wp_scope_back0 {c rest : Code} (l : Nat) (J : Act → World → Prop) (μ : Act → World → Nat) (hf : findLabel c l = some (Code.skip.seq rest))
  (first : (∀ a w, J a w → rest.wp P (Exit.jump l J Q) a w) → c.wp P (Exit.jump l J Q) a w)
  (pass : ∀ a w, J a w → rest.wp P (Exit.jump l (fun a' w' => J a' w' ∧ μ a' w' < μ a w) Q) a w) : (Code.scope c).wp P Q a w :=
 wp_scope_jumps l J μ hf (first fun a w h => Code.wp_mono (fun e a w h => Exit.jump_mono (fun _ _ h => h.1) h) (pass a w h)) fun a w h => wp_seq (wp_skip (pass a w h))
end
end
def mixFQ (h : List Q64) (x : List UInt8) : List Q64 := qAdd h (qRun h (qSch x 0 64) 80) 8
theorem mixF_lengthQ (h : List Q64) (x : List UInt8) : (mixFQ h x).length = h.length := qAdd_length _ _ _
def GlobRQ (w : World) : Prop := w.rangeAt 7 0 (ints .u64 (qs K512))
theorem GlobRQ.ext {w w' : World} (h : GlobRQ w) (hb : Ext w w') : GlobRQ w' := zfi h hb
theorem GlobRQ.cell {w : World} (h : GlobRQ w) {j : Nat} (hj : j < 80) : w.cell? ⟨7, j, none⟩ = some (.int .u64 (qi (K512.getD j 0#64))) := by
 have := h j (.int .u64 (qi (K512.getD j 0#64))) (by rw [zan (by rw [zay]; exact hj), zen])
 simpa using this
theorem hAdd8Q : ∀ (h v : List Q64), h.length = 8 → v.length = 8 → qAdd h v 8 = [h.getD 0 0#64 + v.getD 0 0#64, h.getD 1 0#64 + v.getD 1 0#64, h.getD 2 0#64 + v.getD 2 0#64, h.getD 3 0#64 + v.getD 3 0#64, h.getD 4 0#64 + v.getD 4 0#64, h.getD 5 0#64 + v.getD 5 0#64, h.getD 6 0#64 + v.getD 6 0#64, h.getD 7 0#64 + v.getD 7 0#64]
 | [_, _, _, _, _, _, _, _], [_, _, _, _, _, _, _, _], _, _ => rfl
def MixJQ (h : List Q64) (cs : List UInt8) (A : Nat) (wb : World) (a : Act) (w : World) : Prop :=
 ∃ k B : Nat, k ≤ 80 ∧ Blk w A (ints .u64 (qs h)) 154 ∧ Blk w (A + 1 + 1) (ints .u64 (List.replicate 8 0)) 154 ∧ Blk w B (ints .u64 (qs (qSch cs 0 64))) 137 ∧ Ext wb w ∧
 ∃ u : Nat → Value, a = { tmps := #[.agg (ints .u64 (qs h)).toArray, .agg (cs.map bval).toArray, .pointer (some ⟨A, 0, none⟩), .pointer (some ⟨A + 1, 0, none⟩), .pointer (some ⟨A + 1 + 1, 0, none⟩), .pointer (some ⟨B, 0, none⟩),
  .int .u64 (qi ((qRun h (qSch cs 0 64) k).getD 0 0#64)), .int .u64 (qi ((qRun h (qSch cs 0 64) k).getD 1 0#64)), .int .u64 (qi ((qRun h (qSch cs 0 64) k).getD 2 0#64)), .int .u64 (qi ((qRun h (qSch cs 0 64) k).getD 3 0#64)), .int .u64 (qi ((qRun h (qSch cs 0 64) k).getD 4 0#64)), .int .u64 (qi ((qRun h (qSch cs 0 64) k).getD 5 0#64)), .int .u64 (qi ((qRun h (qSch cs 0 64) k).getD 6 0#64)), .int .u64 (qi ((qRun h (qSch cs 0 64) k).getD 7 0#64)), .int .i64 (k : Int), u 15, u 16, u 17, u 18, u 19, u 20, u 21, u 22, u 23, u 24, u 25, u 26, u 27, u 28, u 29, u 30, u 31, u 32, u 33, u 34, u 35, u 36, u 37, u 38, u 39, u 40, u 41, u 42, u 43, u 44, u 45, u 46, u 47, u 48, u 49, u 50, u 51, u 52, u 53, u 54, u 55, u 56, u 57, u 58, u 59, u 60, u 61, u 62, u 63, u 64, u 65, u 66, u 67, u 68, u 69, u 70, u 71, u 72, u 73, u 74, u 75, u 76, u 77, u 78, u 79, u 80, u 81, u 82, u 83, u 84, u 85, u 86, u 87, u 88, u 89, u 90, u 91, u 92, u 93, u 94, u 95, u 96, u 97, u 98, u 99, u 100, u 101, u 102, u 103, u 104, u 105, u 106, u 107, u 108, u 109, u 110, u 111, u 112, u 113, u 114, u 115, u 116, u 117, u 118], defers := [] }
theorem mixed_anyQ (h : List Q64) (cs : List UInt8) (w : World) (hh : h.length = 8) (hl : cs.length = 128) (hG : GlobRQ w) :
  Calls Tryz.prog 121 #[.agg (ints .u64 (qs h)).toArray, .agg (cs.map bval).toArray] w fun e w' => e = .returned (.agg (ints .u64 (qs (mixFQ h cs))).toArray) ∧ Below w.heap.size w w' := by
 have HL := jh hl
 have HH := jh hh
 have HG := jh hG
 have HB := jh (boxes3uQ w (ints .u64 (qs h)) (cs.map bval) (ints .u64 (List.replicate 8 0)) 154 160 154)
 have HIr : Hid ((Tryz.prog.info? 160).map (·.size) = some (cs.map bval).length) := jh (by rw [q101, hl]; exact Tryz.arr160)
 clear hl hh hG
 go_enter Tryz.func121, Tryz.ntmps121
 go_upto_region 1 with (fail)
 obtain ⟨H1, H2, H3, HE⟩ := HB.out
 change Code.wp _ _ _ _ (((w.alloc (.cells (ints .u64 (qs h)).toArray 154)).alloc (.cells (cs.map bval).toArray 160)).alloc (.cells (ints .u64 (List.replicate 8 0)).toArray 154))
 generalize (((w.alloc (.cells (ints .u64 (qs h)).toArray 154)).alloc (.cells (cs.map bval).toArray 160)).alloc (.cells (ints .u64 (List.replicate 8 0)).toArray 154)) = w3 at *
 obtain ⟨A, hA⟩ : ∃ A, A = w.heap.size := ⟨_, rfl⟩
 rw [← hA] at H1 H2 H3 ⊢
 have hA2 : w.heap.size ≤ A := by omega
 have H1 := jh H1
 have H2 := jh H2
 have H3 := jh H3
 have HE : Hid (Ext w w3) := jh HE
 clear hA HB
 refine wp_scope_back0 0 (MixJQ h cs A w) (fun a' _ => 80 - (intOf (a'.tmps.getD 14 undef)).toNat) rfl ?_ ?_
 ·intro HP
  have HP := jh HP
  go_wp2_with (refine slb (A + 1) H2.out q163 HIr.out ?_)
  refine (schedule_anyQ cs w3 HL.out).mono ?_
  rintro e w4 ⟨rfl, hb⟩
  have H1 := xb H1 hb
  have H3 := xb H3 hb
  have HE := xt HE hb
  clear hb H2
  have HZ := jh (Blk.made w4 (ints .u64 (List.replicate 80 0)) 137)
  have H1L := jh H1.out.lt
  have H3L := jh H3.out.lt
  have H1 := jh (H1.out.alloc (.cells (ints .u64 (List.replicate 80 0)).toArray 137))
  have H3 := jh (H3.out.alloc (.cells (ints .u64 (List.replicate 80 0)).toArray 137))
  have HS4 := jh HE.out.size
  have HE := jh (HE.out.trans (Ext.alloc w4 (.cells (ints .u64 (List.replicate 80 0)).toArray 137)))
  have HLE : Hid ((ints .u64 (qs (qSch cs 0 64))).length = (ints .u64 (List.replicate 80 0)).length) := jh (by rw [zaa, zay, zdj, zaa, q133])
  have HIw : Hid ((Tryz.prog.info? 137).map (·.size) = some (ints .u64 (qs (qSch cs 0 64))).length) := jh (by rw [zaa, zay, zdj]; exact Tryz.arr137)
  go_wp2_with (refine ssb w4.heap.size (ints .u64 (qs (qSch cs 0 64))) HZ.out HLE.out HIw.out (zaj _ _) ?_; intro w5 hb5 hg5)
  have H1 := jh (H1.out.grown hg5 (by have := H1L.out; simp; omega))
  have H3 := jh (H3.out.grown hg5 (by have := H3L.out; simp; omega))
  have HE := jh (zab HE.out hg5 HS4.out)
  have H4 := jh hb5
  generalize w4.heap.size = B at *
  clear hb5 hg5 HZ H1L H3L HS4 HLE HIw
  go_wp2_with fail
  refine zbb (by kernel_rfl) (by kernel_rfl) ?_
  refine sdi A 8 0 q130 (by omega) (q106) ?_
  simp only [nm]
  refine sdl A 0 (.int .u64 (qi (h.getD 0 0#64))) (fun w hw => blk_q (zad H1.out hw) (by rw [HH.out]; omega)) (q105) ?_
  simp only [nm]
  refine sdi A 8 1 q130 (by omega) (q106) ?_
  simp only [nm]
  refine sdl A 1 (.int .u64 (qi (h.getD 1 0#64))) (fun w hw => blk_q (zad H1.out hw) (by rw [HH.out]; omega)) (q105) ?_
  simp only [nm]
  refine sdi A 8 2 q130 (by omega) (q106) ?_
  simp only [nm]
  refine sdl A 2 (.int .u64 (qi (h.getD 2 0#64))) (fun w hw => blk_q (zad H1.out hw) (by rw [HH.out]; omega)) (q105) ?_
  simp only [nm]
  refine sdi A 8 3 q130 (by omega) (q106) ?_
  simp only [nm]
  refine sdl A 3 (.int .u64 (qi (h.getD 3 0#64))) (fun w hw => blk_q (zad H1.out hw) (by rw [HH.out]; omega)) (q105) ?_
  simp only [nm]
  refine sdi A 8 4 q130 (by omega) (q106) ?_
  simp only [nm]
  refine sdl A 4 (.int .u64 (qi (h.getD 4 0#64))) (fun w hw => blk_q (zad H1.out hw) (by rw [HH.out]; omega)) (q105) ?_
  simp only [nm]
  refine sdi A 8 5 q130 (by omega) (q106) ?_
  simp only [nm]
  refine sdl A 5 (.int .u64 (qi (h.getD 5 0#64))) (fun w hw => blk_q (zad H1.out hw) (by rw [HH.out]; omega)) (q105) ?_
  simp only [nm]
  refine sdi A 8 6 q130 (by omega) (q106) ?_
  simp only [nm]
  refine sdl A 6 (.int .u64 (qi (h.getD 6 0#64))) (fun w hw => blk_q (zad H1.out hw) (by rw [HH.out]; omega)) (q105) ?_
  simp only [nm]
  refine sdi A 8 7 q130 (by omega) (q106) ?_
  simp only [nm]
  refine sdl A 7 (.int .u64 (qi (h.getD 7 0#64))) (fun w hw => blk_q (zad H1.out hw) (by rw [HH.out]; omega)) (q105) ?_
  simp only [nm]
  refine zbi _ (.int .u64 (qi (h.getD 0 0#64))) (by rfl) rfl rfl ?_
  simp only [nm]
  refine zbi _ (.int .u64 (qi (h.getD 1 0#64))) (by rfl) rfl rfl ?_
  simp only [nm]
  refine zbi _ (.int .u64 (qi (h.getD 2 0#64))) (by rfl) rfl rfl ?_
  simp only [nm]
  refine zbi _ (.int .u64 (qi (h.getD 3 0#64))) (by rfl) rfl rfl ?_
  simp only [nm]
  refine zbi _ (.int .u64 (qi (h.getD 4 0#64))) (by rfl) rfl rfl ?_
  simp only [nm]
  refine zbi _ (.int .u64 (qi (h.getD 5 0#64))) (by rfl) rfl rfl ?_
  simp only [nm]
  refine zbi _ (.int .u64 (qi (h.getD 6 0#64))) (by rfl) rfl rfl ?_
  simp only [nm]
  refine zbi _ (.int .u64 (qi (h.getD 7 0#64))) (by rfl) rfl rfl ?_
  simp only [nm]
  refine zao (fun w6 hw6 => ?_)
  have H1 := xb H1 hw6
  have H3 := xb H3 hw6
  have H4 := xb H4 hw6
  have HE := xt HE hw6
  clear hw6
  go_wp2_with fail
  go_step3
  rename_i hK
  refine hK _ _ (HP.out _ _ ?_)
  exact ⟨0, B, by omega, H1.out, H3.out, H4.out, HE.out, fun n => ([_, _, _, _, _, _, _, _, _, _, _, _, _, _, _, _, _, _, _, _, _, _, _, _, _, _, _, _, _, _, _, _, _, _, _, _, _, _, _, _, _, _, _, _, _, _, _, _, _, _, _, _, _, _, _, _, _, _, _, _, _, _, _, _, _, _, _, _, _, _, _, _, _, _, _, _, _, _, _, _, _, _, _, _, _, _, _, _, _, _, _, _, _, _, _, _, _, _, _, _, _, _, _, _] : List Value).getD (n - 15) undef, rfl⟩
 ·rintro a w7 ⟨k, B, hk, h1, h3, h4, hE, u, rfl⟩
  have H1 := jh h1
  have H3 := jh h3
  have H4 := jh h4
  have HE := jh hE
  clear h1 h3 h4 hE
  have hvl := qRun_length h (qSch cs 0 64) HH.out k
  by_cases hlt : k < 80
  ·have k1 : (k : Int) < 80 := by omega
   have k0 : (0 : Int) ≤ (k : Int) := Int.natCast_nonneg _
   have HWK : Hid (∀ w', Blk w' B (ints .u64 (qs (qSch cs 0 64))) 137 → w'.cell? ⟨B, k, none⟩ = some (.int .u64 (qi ((qSch cs 0 64).getD k 0#64)))) := jh (fun w' h => blk_q h (by rw [zdj]; exact hlt))
   have HKK : Hid (∀ w', Ext w7 w' → w'.cell? ⟨7, k, none⟩ = some (.int .u64 (qi (K512.getD k 0#64)))) := jh (fun w' h => (HG.out.ext (HE.out.trans h)).cell hlt)
   have HRN : Hid (∀ j, (qRun h (qSch cs 0 64) (k + 1)).getD j 0#64 = (rndq (qRun h (qSch cs 0 64) k) (K512.getD k 0#64) ((qSch cs 0 64).getD k 0#64)).getD j 0#64) := jh (fun _ => rfl)
   unfold rndq at HRN
   generalize K512.getD k 0#64 = kk at *
   generalize (qSch cs 0 64).getD k 0#64 = wk at *
   generalize (qRun h (qSch cs 0 64) k).getD 0 0#64 = v0 at *
   generalize (qRun h (qSch cs 0 64) k).getD 1 0#64 = v1 at *
   generalize (qRun h (qSch cs 0 64) k).getD 2 0#64 = v2 at *
   generalize (qRun h (qSch cs 0 64) k).getD 3 0#64 = v3 at *
   generalize (qRun h (qSch cs 0 64) k).getD 4 0#64 = v4 at *
   generalize (qRun h (qSch cs 0 64) k).getD 5 0#64 = v5 at *
   generalize (qRun h (qSch cs 0 64) k).getD 6 0#64 = v6 at *
   generalize (qRun h (qSch cs 0 64) k).getD 7 0#64 = v7 at *
   go_wp2_with fail
   refine zbb (by kernel_rfl) (by kernel_rfl) ?_
   refine zas _ (.int .u64 (qi v7)) (by rfl) rfl rfl ?_
   simp only [nm]
   refine zas _ (.int .u64 (qi v4)) (by rfl) rfl rfl ?_
   simp only [nm]
   refine sdc [.int .u64 (qi v4), .int .i64 14, .int .i64 18, .int .i64 41] (.int .u64 (qi (rotq v4 14 ^^^ rotq v4 18 ^^^ rotq v4 41))) Tryz.call139 (fun w hw => sum_extQ v4 14 18 41 (by omega) (by omega) (by omega) (by omega) (by omega) (by omega) w) ?_
   simp only [nm]
   refine zfm _ _ _ _ _ _ _ (qi (v7 + (rotq v4 14 ^^^ rotq v4 18 ^^^ rotq v4 41))) (by rfl) rfl rfl rfl (zcy _ _) ?_
   simp only [nm]
   refine zas _ (.int .u64 (qi v4)) (by rfl) rfl rfl ?_
   simp only [nm]
   refine zas _ (.int .u64 (qi v5)) (by rfl) rfl rfl ?_
   simp only [nm]
   refine zfl _ _ _ _ _ _ _ (qi (v4 &&& v5)) (by rfl) rfl rfl rfl (qi_and _ _) ?_
   simp only [nm]
   refine zas _ (.int .u64 (qi v4)) (by rfl) rfl rfl ?_
   simp only [nm]
   refine det_qinot _ _ v4 (by rfl) rfl rfl ?_
   simp only [nm]
   refine zas _ (.int .u64 (qi v6)) (by rfl) rfl rfl ?_
   simp only [nm]
   refine zfl _ _ _ _ _ _ _ (qi ((~~~v4) &&& v6)) (by rfl) rfl rfl rfl (qi_and _ _) ?_
   simp only [nm]
   refine det_xor _ _ _ _ _ _ _ (qi ((v4 &&& v5) ^^^ ((~~~v4) &&& v6))) (by rfl) rfl rfl rfl (zed _ _) ?_
   simp only [nm]
   refine zfm _ _ _ _ _ _ _ (qi ((v7 + (rotq v4 14 ^^^ rotq v4 18 ^^^ rotq v4 41)) + ((v4 &&& v5) ^^^ ((~~~v4) &&& v6)))) (by rfl) rfl rfl rfl (zcy _ _) ?_
   simp only [nm]
   refine zas _ (.int .i64 ((k : Nat) : Int)) (by rfl) rfl rfl ?_
   simp only [nm]
   refine sdi 7 80 k q167 (by omega) (q106) ?_
   simp only [nm]
   refine sdl 7 k (.int .u64 (qi kk)) (fun w hw => HKK.out _ hw) (q105) ?_
   simp only [nm]
   refine zfm _ _ _ _ _ _ _ (qi (((v7 + (rotq v4 14 ^^^ rotq v4 18 ^^^ rotq v4 41)) + ((v4 &&& v5) ^^^ ((~~~v4) &&& v6))) + kk)) (by rfl) rfl rfl rfl (zcy _ _) ?_
   simp only [nm]
   refine zas _ (.int .i64 ((k : Nat) : Int)) (by rfl) rfl rfl ?_
   simp only [nm]
   refine sdi B 80 k q167 (by omega) (q106) ?_
   simp only [nm]
   refine sdl B k (.int .u64 (qi wk)) (fun w hw => HWK.out _ (zad H4.out hw)) (q105) ?_
   simp only [nm]
   refine zfm _ _ _ _ _ _ _ (qi ((((v7 + (rotq v4 14 ^^^ rotq v4 18 ^^^ rotq v4 41)) + ((v4 &&& v5) ^^^ ((~~~v4) &&& v6))) + kk) + wk)) (by rfl) rfl rfl rfl (zcy _ _) ?_
   simp only [nm]
   refine zbi _ (.int .u64 (qi ((((v7 + (rotq v4 14 ^^^ rotq v4 18 ^^^ rotq v4 41)) + ((v4 &&& v5) ^^^ ((~~~v4) &&& v6))) + kk) + wk))) (by rfl) rfl rfl ?_
   simp only [nm]
   refine zao (fun w1 hw1 => ?_)
   have H1 := xb H1 hw1
   have H3 := xb H3 hw1
   have H4 := xb H4 hw1
   have HE := xt HE hw1
   clear hw1
   generalize ht : (((v7 + (rotq v4 14 ^^^ rotq v4 18 ^^^ rotq v4 41)) + ((v4 &&& v5) ^^^ ((~~~v4) &&& v6))) + kk) + wk = t at *
   have HT := jh ht
   clear ht
   go_wp2_with fail
   have q1 : bits .and .u64 (qi v0) (qi v1) = qi (v0 &&& v1) := qi_and _ _
   have q2 : bits .and .u64 (qi v0) (qi v2) = qi (v0 &&& v2) := qi_and _ _
   have q3 : bits .and .u64 (qi v1) (qi v2) = qi (v1 &&& v2) := qi_and _ _
   have q4 : bits .xor .u64 (qi (v0 &&& v1)) (qi (v0 &&& v2)) = qi (v0 &&& v1 ^^^ v0 &&& v2) := zed _ _
   have q5 : bits .xor .u64 (qi (v0 &&& v1 ^^^ v0 &&& v2)) (qi (v1 &&& v2)) = qi (v0 &&& v1 ^^^ v0 &&& v2 ^^^ v1 &&& v2) := zed _ _
   obtain ⟨u16, hu⟩ : ∃ x : Q64, x = (rotq v0 28 ^^^ rotq v0 34 ^^^ rotq v0 39) + (v0 &&& v1 ^^^ v0 &&& v2 ^^^ v1 &&& v2) := ⟨_, rfl⟩
   have q6 : IntKind.u64.wrap (qi (rotq v0 28 ^^^ rotq v0 34 ^^^ rotq v0 39) + qi (v0 &&& v1 ^^^ v0 &&& v2 ^^^ v1 &&& v2)) = qi u16 := by rw [hu, zcy]
   have q7 : IntKind.u64.wrap (qi t + qi u16) = qi (t + u16) := by rw [zcy]
   have q8 : IntKind.u64.wrap (qi v3 + qi t) = qi (v3 + t) := by rw [zcy]
   have HU := jh hu
   clear hu
   refine (sum_anyQ v0 28 34 39 (by omega) (by omega) (by omega) (by omega) (by omega) (by omega) w1).mono ?_
   rintro e w2 ⟨rfl, rfl⟩
   go_wp2_with fail
   clear q1 q2 q3 q4 q5 q6
   go_step3
   have r0 : (qRun h (qSch cs 0 64) (k + 1)).getD 0 0#64 = t + u16 := by rw [HRN.out, ← HT.out, HU.out]; rfl
   have r4 : (qRun h (qSch cs 0 64) (k + 1)).getD 4 0#64 = v3 + t := by rw [HRN.out, ← HT.out]; rfl
   have r1 : (qRun h (qSch cs 0 64) (k + 1)).getD 1 0#64 = v0 := HRN.out 1
   have r2 : (qRun h (qSch cs 0 64) (k + 1)).getD 2 0#64 = v1 := HRN.out 2
   have r3 : (qRun h (qSch cs 0 64) (k + 1)).getD 3 0#64 = v2 := HRN.out 3
   have r5 : (qRun h (qSch cs 0 64) (k + 1)).getD 5 0#64 = v4 := HRN.out 5
   have r6 : (qRun h (qSch cs 0 64) (k + 1)).getD 6 0#64 = v5 := HRN.out 6
   have r7 : (qRun h (qSch cs 0 64) (k + 1)).getD 7 0#64 = v6 := HRN.out 7
   have hk1 : ((k + 1 : Nat) : Int) = (k : Int) + 1 := by omega
   rw [← r0, ← r4, ← r1, ← r2, ← r3, ← r5, ← r6, ← r7, ← hk1]
   change (0 = 0 ∧ (MixJQ h cs A w _ _ ∧ _ < _))
   refine ⟨rfl, ⟨k + 1, B, by omega, H1.out, H3.out, H4.out, HE.out, fun n => ([_, _, _, _, _, _, _, _, _, _, _, _, _, _, _, _, _, _, _, _, _, _, _, _, _, _, _, _, _, _, _, _, _, _, _, _, _, _, _, _, _, _, _, _, _, _, _, _, _, _, _, _, _, _, _, _, _, _, _, _, _, _, _, _, _, _, _, _, _, _, _, _, _, _, _, _, _, _, _, _, _, _, _, _, _, _, _, _, _, _, _, _, _, _, _, _, _, _, _, _, _, _, _, _] : List Value).getD (n - 15) undef, rfl⟩, ?_⟩
   ·show 80 - (intOf (.int .i64 ((k + 1 : Nat) : Int))).toNat < 80 - (intOf (.int .i64 (k : Int))).toNat
    simp [intOf]
    omega
  ·have hk64 : k = 80 := by omega
   subst hk64
   have e := hAdd8Q h (qRun h (qSch cs 0 64) 80) HH.out hvl
   have HM : Hid (mixFQ h cs = _) := jh e
   have hc : ∀ j, j < 8 → w7.cell? ⟨A, j, none⟩ = some (.int .u64 (qi (h.getD j 0#64))) := fun j hj => blk_q H1.out (by rw [HH.out]; exact hj)
   have c0 := hc 0 (by omega)
   have c1 := hc 1 (by omega)
   have c2 := hc 2 (by omega)
   have c3 := hc 3 (by omega)
   have c4 := hc 4 (by omega)
   have c5 := hc 5 (by omega)
   have c6 := hc 6 (by omega)
   have c7 := hc 7 (by omega)
   generalize (qRun h (qSch cs 0 64) 80).getD 0 0#64 = v0 at *
   generalize h.getD 0 0#64 = y0 at *
   have s0 : IntKind.u64.wrap (qi y0 + qi v0) = qi (y0 + v0) := by rw [zcy]
   generalize (qRun h (qSch cs 0 64) 80).getD 1 0#64 = v1 at *
   generalize h.getD 1 0#64 = y1 at *
   have s1 : IntKind.u64.wrap (qi y1 + qi v1) = qi (y1 + v1) := by rw [zcy]
   generalize (qRun h (qSch cs 0 64) 80).getD 2 0#64 = v2 at *
   generalize h.getD 2 0#64 = y2 at *
   have s2 : IntKind.u64.wrap (qi y2 + qi v2) = qi (y2 + v2) := by rw [zcy]
   generalize (qRun h (qSch cs 0 64) 80).getD 3 0#64 = v3 at *
   generalize h.getD 3 0#64 = y3 at *
   have s3 : IntKind.u64.wrap (qi y3 + qi v3) = qi (y3 + v3) := by rw [zcy]
   generalize (qRun h (qSch cs 0 64) 80).getD 4 0#64 = v4 at *
   generalize h.getD 4 0#64 = y4 at *
   have s4 : IntKind.u64.wrap (qi y4 + qi v4) = qi (y4 + v4) := by rw [zcy]
   generalize (qRun h (qSch cs 0 64) 80).getD 5 0#64 = v5 at *
   generalize h.getD 5 0#64 = y5 at *
   have s5 : IntKind.u64.wrap (qi y5 + qi v5) = qi (y5 + v5) := by rw [zcy]
   generalize (qRun h (qSch cs 0 64) 80).getD 6 0#64 = v6 at *
   generalize h.getD 6 0#64 = y6 at *
   have s6 : IntKind.u64.wrap (qi y6 + qi v6) = qi (y6 + v6) := by rw [zcy]
   generalize (qRun h (qSch cs 0 64) 80).getD 7 0#64 = v7 at *
   generalize h.getD 7 0#64 = y7 at *
   have s7 : IntKind.u64.wrap (qi y7 + qi v7) = qi (y7 + v7) := by rw [zcy]
   clear hc e
   have HIm : Hid ((Tryz.prog.info? 154).map (·.size) = some (ints .u64 (qs [y0 + v0, y1 + v1, y2 + v2, y3 + v3, y4 + v4, y5 + v5, y6 + v6, y7 + v7])).length) := jh Tryz.arr154
   go_wp2_with (refine ssb (A + 1 + 1) (ints .u64 (qs [y0 + v0, y1 + v1, y2 + v2, y3 + v3, y4 + v4, y5 + v5, y6 + v6, y7 + v7])) H3.out (by simp [zaa, zay]) HIm.out (zaj _ _) ?_; intro w8 hb8 hg8)
   simp only [Exit.jump]
   refine bodyPost_ret (zbc rfl _ (A + 1 + 1) _ _ _ _ rfl hb8 q130 HIm.out) rfl ?_
   exact ⟨by rw [HM.out], zab HE.out hg8 (by omega)⟩
theorem rot_any (x : Q64) (n : Nat) (hn : n ≤ 64) (w : World) : Calls Tryz.prog 105 #[.int .u64 (qi x), .int .u64 (n : Int)] w fun e w' => e = .returned (.int .u64 (qi (rotq x n))) ∧ w = w' := by
 have HX := jh (qi_rotq x n)
 have hr := qi_range x
 generalize qi x = z at *
 have n0 : (n : Int) ≤ 64 := by omega
 go_enter Tryz.func105, Tryz.ntmps105
 go_wp2_with fail
 go_ret
 exact ⟨congrArg (fun v => Ending.returned (.int .u64 v)) (by rw [← HX.out, IntKind.wrap_u64]), rfl⟩
theorem rot_ext (x : Q64) (n : Nat) (hn : n ≤ 64) (w : World) : Calls Tryz.prog 105 #[.int .u64 (qi x), .int .u64 (n : Int)] w fun e w' => e = .returned (.int .u64 (qi (rotq x n))) ∧ Below w.heap.size w w' :=
 (rot_any x n hn w).mono fun _ _ h => ⟨h.1, by obtain ⟨_, rfl⟩ := h; exact Below.refl _ _⟩
def lenOf : Value → Nat
 | .slice _ n _ => n
 | _ => 0
theorem ownRow_len {w : World} {base : Nat} {e : TypeId} {n : Nat} {x : Value} {xs : List Value} (h : w.ownsRow base e 1 x n xs) : lenOf x = n := by
 obtain ⟨_, ⟨rfl, rfl⟩ | ⟨g, cap, cur, rfl, _⟩⟩ := h
 ·rfl
 ·rfl
theorem own_eq {w : World} {base : Nat} {e : TypeId} {n m : Nat} {x : Value} {xs ys : List Value} (h : w.ownsRow base e 1 x n xs) (hn : n = m) (hx : xs = ys) : w.ownsRow base e 1 x m ys := by
 subst hn; subst hx
 exact h
def padA (b : List UInt8) (k : Nat) : List UInt8 := b ++ [128] ++ List.replicate k 0
theorem padA_succ (b : List UInt8) (k : Nat) : padA b (k + 1) = padA b k ++ [0] := by
 unfold padA
 rw [List.replicate_succ']
 simp [q137]
theorem padA_length (b : List UInt8) (k : Nat) : (padA b k).length = b.length + 1 + k := by simp [padA]; omega
theorem beB_get (n : Nat) : ∀ k j, j < k → (beB k n)[j]? = some (UInt8.ofNat (n / 256 ^ (k - 1 - j) % 256))
 | 0, j, h => by omega
 | k + 1, 0, h => by simp [beB]
 | k + 1, j + 1, h => by
  simp only [beB, List.getElem?_cons_succ]
  rw [beB_get n k j (by omega)]
  congr 5
  omega
def padC (b : List UInt8) (k : Nat) : List UInt8 := padA b (padQ b.length) ++ (beB 16 (8 * b.length)).take k
theorem padC_full (b : List UInt8) : padC b 16 = paddedQ b := by
 unfold padC paddedQ padA
 rw [q110 (by rw [beB_length]; exact q102 _)]
theorem padC_succ (b : List UInt8) (k : Nat) (hk : k < 16) : padC b (k + 1) = padC b k ++ [UInt8.ofNat (8 * b.length / 256 ^ (15 - k) % 256)] := by
 unfold padC
 have hl : k < (beB 16 (8 * b.length)).length := by rw [beB_length]; exact hk
 rw [q159 hl, q137]
 congr 2
 have h1 := beB_get (8 * b.length) 16 k hk
 rw [List.getElem?_eq_getElem hl] at h1
 simpa using h1
theorem padQ_test (n k : Nat) (hk : k ≤ padQ n) : ((n + 1 + k) % 128 = 112 ↔ k = padQ n) := by
 unfold padQ at *
 omega
theorem paddedQ_any (v : Value) (b : List UInt8) (w : World) (hv : Row1 w v (b.map bval)) (hb : b.length ≤ 1099511627776) :
  Calls Tryz.prog 104 #[v, .int .i64 128, .int .i64 16] w fun e w' => ∃ x, e = .returned x ∧ Row1 w' x ((paddedQ b).map bval) ∧ Below w.heap.size w w' := by
 obtain ⟨i0, hi, hz0, hz1, hz2⟩ := info_parts Tryz.info5
 have HRW := jh hv
 obtain ⟨a, cap, hva, r1, r2, r3, r4⟩ := id hv
 rw [q101] at hva r1
 unfold maxLen at r2
 subst hva
 have HI0 := jh hi
 have HZ0 := jh hz0
 have HZ1 := jh hz1
 have HZ2 := jh hz2
 have HLM : Hid ((b.map bval).length = b.length) := jh (q101 _)
 have HNIL : Hid (w.ownsRow w.heap.size 5 1 (.slice none 0 0) 0 []) := jh (World.ownsRow_nil _ _ _ _)
 clear hv r3 r4 hi hz0 hz1 hz2
 go_enter Tryz.func104, Tryz.ntmps104
 go_wp2_with (first | (at_builtin; refine zam rfl _ _ 46 rfl w.heap.size 5 i0 (.int .u8 0) 1 q107 HI0.out HZ0.out HZ1.out HZ2.out rfl _ 0 [] rfl HNIL.out rfl HRW.out (zaf _) (by rw [HLM.out]; unfold maxLen; omega) (by rw [HLM.out]; omega) (q102 _) ?_; intro v1 w1 hown1 hgrow1; have HO1 := jh hown1; have HX1 := jh (ext_own (Ext.refl w) HNIL.out (q102 _) hgrow1); have HS1 := jh hgrow1.size; clear hown1 hgrow1) | (at_builtin; refine zam rfl _ _ 46 rfl w.heap.size 5 i0 (.int .u8 0) 1 q107 HI0.out HZ0.out HZ1.out HZ2.out rfl _ (0 + (b.map bval).length) _ rfl (HO1.out.alloc _) rfl (Row1.made _ #[.int .u8 128] _ _ 1 ([128].map bval) rfl rfl rfl (by unfold maxLen; omega)) (zaf _) (by rw [HLM.out]; unfold maxLen; simp; omega) (by rw [HLM.out]; simp; omega) (by simp; have := HS1.out; omega) ?_; intro v2 w2 hown2 hgrow2))
 have HX2 := jh (ext_own (HX1.out.trans (Ext.alloc w1 (.cells #[.int .u8 128] 5))) (HO1.out.alloc _) (q102 _) hgrow2)
 have HO2 : Hid (w2.ownsRow w.heap.size 5 1 v2 (padA b 0).length ((padA b 0).map bval)) := jh (by
  have h := hown2
  rw [q118, ← q134] at h
  have e : 0 + (b.map bval).length + ([128].map bval).length = (padA b 0).length := by simp [padA]
  rw [e] at h
  simpa [padA] using h)
 clear hown2 hgrow2 HO1 HX1 HS1
 go_loopw [7] (fun x wr => ∃ (k : Nat), k ≤ padQ b.length ∧ wr.ownsRow w.heap.size 5 1 x (padA b k).length ((padA b k).map bval) ∧ Ext w wr) (fun x _ => b.length + 1 + padQ b.length - lenOf x)
 case atStart => exact ⟨0, by omega, HO2.out, HX2.out⟩
 case round =>
  clear HO2 HX2
  obtain ⟨k, hk, ho, hE⟩ := hrel
  obtain ⟨a2, cap2, rfl, s1, s2, s3, s4⟩ := id (Row1.of_own ho)
  have hpl := padA_length b k
  have ht := padQ_test b.length k hk
  have hp63 : padQ b.length < 128 := by unfold padQ; omega
  have HO := jh ho
  have HE := jh hE
  rw [q101, hpl] at s1 HO ⊢
  unfold maxLen at s2
  clear ho hE s3 s4
  by_cases hkn : k = padQ b.length
  ·subst hkn
   have hd : (((b.length + 1 + padQ b.length : Nat) : Int) % 128 != 112) = false := by simp; omega
   have HO2 : Hid (wr.ownsRow w.heap.size 5 1 (.slice a2 (b.length + 1 + padQ b.length) cap2) (padC b 0).length ((padC b 0).map bval)) := jh (own_eq HO.out (by simp [padC, padA]; omega) (by simp [padC]))
   clear HO ht hpl s1 s2
   generalize b.length + 1 + padQ b.length = n at *
   go_wp2_with fail
   obtain ⟨wo, rfl⟩ : ∃ wo : World, wo = wr := ⟨_, rfl⟩
   go_loopw [7, 9] (fun x i wr => ∃ (j : Nat), j ≤ 16 ∧ i = .int .i64 (15 - (j : Int)) ∧ wr.ownsRow w.heap.size 5 1 x (padC b j).length ((padC b j).map bval) ∧ Ext w wr) (fun _ i _ => (intOf i + 1).toNat)
   case atStart => exact ⟨0, by omega, rfl, HO2.out, HE.out⟩
   case round =>
    clear HO2 HE
    obtain ⟨j, hj, rfl, ho, hE⟩ := hrel
    have HO := jh ho
    have HE := jh hE
    have HS := jh hE.size
    have hpb : (padC b j).length ≤ 1099511628200 := by simp [padC, padA]; omega
    by_cases hj8 : j < 16
    ·have HBS := jh (padC_succ b j hj8)
     obtain ⟨k, hk⟩ : ∃ k : Nat, k = 15 - j := ⟨_, rfl⟩
     have hk2 : (15 : Int) - (j : Int) = (k : Int) := by omega
     rw [hk2]
     have HJ : Hid (j + k = 15) := jh (by omega)
     rw [← hk] at HBS
     clear ho hE hk hk2 hj hj8
     have k0 : (0 : Int) ≤ (k : Int) := Int.natCast_nonneg _
     by_cases hk8 : k < 8
     ·have k8 : (k : Int) < 8 := by omega
      clear hk8
      obtain ⟨s, hs⟩ : ∃ s : Nat, s = 8 * k := ⟨_, rfl⟩
      have hs2 : 8 * (k : Int) = (s : Int) := by omega
      have s64 : (s : Int) < 64 := by omega
      have e1 : (2 : Int) ^ s = ((256 ^ k : Nat) : Int) := by rw [hs, Int.pow_mul]; simp
      have hv2 : 8 * (b.length : Int) / 2 ^ s = ((8 * b.length / 256 ^ k : Nat) : Int) := by
       have e2 : 8 * (b.length : Int) = ((8 * b.length : Nat) : Int) := by omega
       rw [e1, e2, ← Int.natCast_ediv]
      have hvb : 8 * b.length / 256 ^ k ≤ 8 * b.length := Nat.div_le_self _ _
      have hq : ((UInt8.ofNat (8 * b.length / 256 ^ k % 256)).toNat : Int) = ((8 * b.length / 256 ^ k : Nat) : Int) % 256 := by rw [UInt8.toNat_ofNat']; omega
      have HQ := jh hq
      generalize UInt8.ofNat (8 * b.length / 256 ^ k % 256) = c at *
      generalize 8 * b.length / 256 ^ k = q at *
      have hm := and_i64_255 (q : Int) (by omega) (by omega)
      have HBV : Hid (bval c = .int .u8 ((q : Int) % 256)) := jh (by unfold bval; rw [hq])
      clear hs hq e1
      go_wp2_with (at_builtin; refine zam rfl _ _ 46 rfl w.heap.size 5 i0 (.int .u8 0) 1 q107 HI0.out HZ0.out HZ1.out HZ2.out rfl _ (padC b j).length _ rfl (HO.out.alloc _) rfl (Row1.made _ #[.int .u8 ((q : Int) % 256)] _ _ 1 [.int .u8 ((q : Int) % 256)] rfl rfl rfl (by unfold maxLen; omega)) (by intro u hu; simp at hu; subst hu; rfl) (by unfold maxLen; simp; omega) (by simp; omega) (by simp; have := HS.out; omega) ?_; intro v3 w3 hown3 hgrow3)
      go_roundw
      case rel =>
       refine ⟨j + 1, by have := HJ.out; omega, ?_, own_eq hown3 (by rw [HBS.out]; simp) (by rw [HBS.out, q134, q153, List.map_nil, HBV.out]), ext_own (HE.out.trans (Ext.alloc wr _)) (HO.out.alloc _) (q102 _) hgrow3⟩
       have := HJ.out
       rw [show (k : Int) - 1 = 15 - ((j + 1 : Nat) : Int) from by omega]
      case measure => simp [intOf]
     ·have k8 : 8 ≤ (k : Int) := by omega
      have k16 : (k : Int) ≤ 15 := by have := HJ.out; omega
      have hq : ((UInt8.ofNat (8 * b.length / 256 ^ k % 256)).toNat : Int) = 0 := by
       have h1 : 8 * b.length / 256 ^ k = 0 := by
        apply q157
        have h2 : (256 : Nat) ^ 8 ≤ 256 ^ k := q178 (by omega) (by omega)
        have h3 : (256 : Nat) ^ 8 = 18446744073709551616 := rfl
        omega
       rw [h1]
       rfl
      generalize UInt8.ofNat (8 * b.length / 256 ^ k % 256) = c at *
      have HBV : Hid (bval c = .int .u8 0) := jh (by unfold bval; rw [hq])
      clear hq hk8
      go_wp2_with (at_builtin; refine zam rfl _ _ 46 rfl w.heap.size 5 i0 (.int .u8 0) 1 q107 HI0.out HZ0.out HZ1.out HZ2.out rfl _ (padC b j).length _ rfl (HO.out.alloc _) rfl (Row1.made _ #[.int .u8 0] _ _ 1 [.int .u8 0] rfl rfl rfl (by unfold maxLen; omega)) (by intro u hu; simp at hu; subst hu; rfl) (by unfold maxLen; simp; omega) (by simp; omega) (by simp; have := HS.out; omega) ?_; intro v3 w3 hown3 hgrow3)
      go_roundw
      case rel =>
       refine ⟨j + 1, by have := HJ.out; omega, ?_, own_eq hown3 (by rw [HBS.out]; simp) (by rw [HBS.out, q134, q153, List.map_nil, HBV.out]), ext_own (HE.out.trans (Ext.alloc wr _)) (HO.out.alloc _) (q102 _) hgrow3⟩
       have := HJ.out
       rw [show (k : Int) - 1 = 15 - ((j + 1 : Nat) : Int) from by omega]
      case measure => simp [intOf]
    ·have hj8' : j = 16 := by omega
     subst hj8'
     have hm1 : (15 : Int) - ((16 : Nat) : Int) = -1 := rfl
     rw [hm1]
     have hr0 := Row1.of_own ho
     rw [padC_full] at hr0
     have HR := jh hr0
     clear hr0
     clear ho hE hj hj8 HO hpb
     go_wp2_with fail
     go_ret
     exact ⟨_, rfl, HR.out, HE.out⟩
  ·have hd : (((b.length + 1 + k : Nat) : Int) % 128 != 112) = true := by simp; omega
   have hL : ((b.length + 1 + k : Nat) : Int) = (b.length : Int) + 1 + (k : Int) := by omega
   have HS := jh HE.out.size
   have HK : Hid (k < padQ b.length) := jh (by omega)
   clear ht hL
   generalize hn : b.length + 1 + k = n at *
   have HN := jh hn
   have hn9 : n ≤ 1099511628200 := by omega
   clear hn hpl hkn hk
   go_wp2_with (at_builtin; refine zam rfl _ _ 46 rfl w.heap.size 5 i0 (.int .u8 0) 1 q107 HI0.out HZ0.out HZ1.out HZ2.out rfl _ n _ rfl (HO.out.alloc _) rfl (Row1.made _ #[.int .u8 0] _ _ 1 ([0].map bval) rfl rfl rfl (by unfold maxLen; omega)) (zaf _) (by unfold maxLen; simp; omega) (by simp; omega) (by simp; have := HS.out; omega) ?_; intro v3 w3 hown3 hgrow3)
   go_roundw
   case rel =>
    refine ⟨k + 1, HK.out, own_eq hown3 (by rw [padA_length, ← HN.out]; simp; omega) (by rw [padA_succ, q134]), ext_own (HE.out.trans (Ext.alloc wr (.cells #[.int .u8 0] 5))) (HO.out.alloc _) (q102 _) hgrow3⟩
   case measure =>
    rw [ownRow_len hown3]
    have := HN.out
    have := HK.out
    simp [lenOf]
    omega
def MsgAt (B0 c off : Nat) (m : List UInt8) (w : World) : Prop := c < B0 ∧ B0 ≤ w.heap.size ∧ ∀ j, j < m.length → w.cell? ⟨c, off + j, none⟩ = some (.int .u8 ((m.getD j 0).toNat : Int))
theorem MsgAt.ext {B0 c off : Nat} {m : List UInt8} {w w' : World} (h : MsgAt B0 c off m w) (he : Ext w w') : MsgAt B0 c off m w' :=
 ⟨h.1, q121 h.2.1 he.size, fun j hj => by rw [← h.2.2 j hj]; exact he.cell (p := ⟨c, off + j, none⟩) (q114 h.1 h.2.1)⟩
theorem MsgAt.drew {B0 c off : Nat} {m : List UInt8} {w : World} (h : MsgAt B0 c off m w) : MsgAt B0 c off m w.drew := h
theorem MsgAt.far {B0 c off : Nat} {m : List UInt8} {w : World} (h : MsgAt B0 c off m w) {a : Addr} (ha : a.block ≠ c) (v : Value) : MsgAt B0 c off m (w.setCell a v) :=
 ⟨h.1, by simpa [World.setCell] using h.2.1, fun j hj => by rw [← h.2.2 j hj]; exact World.cell?_setCell_other _ _ _ _ (by rintro rfl; exact ha rfl)⟩
theorem MsgAt.grown {B0 c off : Nat} {m : List UInt8} {w w' : World} {r : Option Nat} (h : MsgAt B0 c off m w) (hg : w.grownBy w' r) (hr : r ≠ some c) : MsgAt B0 c off m w' :=
 ⟨h.1, q121 h.2.1 hg.size, fun j hj => by
  rw [← h.2.2 j hj]
  have := hg.block c (q114 h.1 h.2.1) (fun e => hr e.symm)
  simp [World.cell?, this]⟩
theorem not_bytes {K : IntKind} (hK : K ≠ .u8) {zs : List Int} {i : Nat} {z : Int} : (ints K zs)[i]? ≠ some (.int .u8 z) := by
 unfold ints
 rw [List.getElem?_map]
 cases zs[i]? <;> simp [hK]
