/- Lemmas. -/
import Derived.Test.YthafgicndklgfaaGreatDoorQy12
import Derived.Test.YthafgicndklgfaaGreatDoorQy16
namespace Go.Proofs.YthafgicndklgfaaGreatDoor
set_option linter.unusedVariables false
set_option maxRecDepth 100000
set_option maxHeartbeats 32000000
set_option linter.unusedSimpArgs false
open Go.RowKit
section
section
variable {P : Program} {ops : Array Oper} {C : World → Prop} {D : Act → Prop}
theorem run_equalIn_bools {ty : TypeId} (hu : P.underlying ty = some .bool) (d : Nat) (a b : Bool) (w : World) : (Op.equalIn (d + 1) ty (.bool a) (.bool b)).run P w = .ok (a == b) w := by
 simp only [Op.equalIn, Sem.run_bind, run_underlying hu, Result.andThen_ok, Sem.run_pure]
theorem run_equal_bools {ty : TypeId} (hu : P.underlying ty = some .bool) (a b : Bool) (w : World) : (Op.equal ty (.bool a) (.bool b)).run P w = .ok (a == b) w :=
 run_equalIn_bools hu 9999 a b w
end
end
section
section
variable {P : Program} {ops : Array Oper} {S : World → Prop}
theorem yi_eql {o : Oper} {a : Act} (ty rt e : TypeId) (x y : Operand) (n : Nat) (i : TypeInfo) (xs ys : List UInt8) (r : Bool) (hw : Region.wanted o (yielded ops a.tmps) = true) (ho : o.op = .binOp .eql ty x y rt) (hb : decide (xs = ys) = r)
  (hu : P.underlying ty = some (.array n e)) (he : P.underlying e = some (.int .u8)) (hi : P.info? e = some i) (hc : P.cellsOf e = 1) (hg : P.eqGuardType P.depth ty = false)
  (hx : a.eval x = .agg (xs.map bval).toArray) (hy : a.eval y = .agg (ys.map bval).toArray) (lx : xs.length = n) (ly : ys.length = n) : YieldsIf P ops S o (.bool r) a :=
 zbj _ hw (fun w _ => by
  have h1 := zff hu he hi hc xs ys lx ly w
  rw [hb] at h1
  unfold execOp
  simp [ho, hx, hy, eqGuard, hg, binOp, h1])
end
end
section
section
variable {P : Program} {ops : Array Oper} {S : World → Prop}
theorem yi_eqb {o : Oper} {a : Act} (ty rt : TypeId) (x y : Operand) (b c r : Bool) (hr : (b == c) = r) (hu : P.underlying ty = some .bool) (hw : Region.wanted o (yielded ops a.tmps) = true) (ho : o.op = .binOp .eql ty x y rt) (hx : a.eval x = .bool b) (hy : a.eval y = .bool c) : YieldsIf P ops S o (.bool r) a :=
 zbj _ hw (fun w _ => by
  unfold execOp
  simp only [ho, hx, hy]
  simp [eqGuard, binOp, run_equal_bools hu, hr])
end
end
theorem ORD_val : gV 256 ORD = qQ := by decide +kernel
section
section
variable {P : Program} {w : World}
theorem Row1.made_mark (w : World) (c : Array Value) (e : TypeId) (fr : Nat × Nat) (n m : Nat) (l : List Value) (hn : w.heap.size = n) (hc : c.toList = l) (hl : l.length = m) (hm : m ≤ maxLen) : Row1 (w.alloc (.cells c e fr)) (.slice (some ⟨n, 0, none⟩) m m) l := by
 subst hn; subst hl; subst hc
 refine ⟨_, _, rfl, q102 _, hm, (fun e => by cases e), fun _ => ⟨w.heap.size, 0, rfl, by simp, fun i hi => ?_⟩⟩
 rw [q125, World.cell?_alloc_mark]
 simp
end
end
theorem rstopText_any (id : Int) (w : World) : Calls Tryz.prog 39 #[.int .i64 id] w fun e w' => ∃ x, e = .returned x ∧ w'.ownsRow w.heap.size 5 1 x 12 ((stopT id).map bval) ∧ Below w.heap.size w w' := by
 have kc := fun (w : World) (C : Array Value) (n c : Nat) => Lib.run_convert_bytes_const (P := Tryz.prog) w 46 5 C n c q107 q111
 have r1 : Row1 (w.alloc (.cells #[.int .u8 80, .int .u8 67, .int .u8 83, .int .u8 84] 5 (4, 5))) (.slice (some ⟨w.heap.size, 0, none⟩) 4 4) (([80, 67, 83, 84] : List UInt8).map bval) := Row1.made_mark w _ _ _ _ _ _ rfl rfl rfl (by unfold maxLen; omega)
 have e1 : Ext w (w.alloc (.cells #[.int .u8 80, .int .u8 67, .int .u8 83, .int .u8 84] 5 (4, 5))) := Ext.alloc _ _
 have hs : (w.alloc (.cells #[.int .u8 80, .int .u8 67, .int .u8 83, .int .u8 84] 5 (4, 5))).heap.size = w.heap.size + 1 := by simp
 have e2 := Ext.alloc (w.alloc (.cells #[.int .u8 80, .int .u8 67, .int .u8 83, .int .u8 84] 5 (4, 5))) (.cells #[.int .i64 id] 3)
 have r2 : Row1 ((w.alloc (.cells #[.int .u8 80, .int .u8 67, .int .u8 83, .int .u8 84] 5 (4, 5))).alloc (.cells #[.int .i64 id] 3)) (.slice (some ⟨w.heap.size + 1, 0, none⟩) 1 1) (([id] : List Int).map (.int .i64)) := Row1.made _ #[.int .i64 id] 3 _ 1 _ hs rfl rfl (by unfold maxLen; omega)
 have HC := jh (rint_any (bl := [80, 67, 83, 84]) (ns := [id]) _ (r1.below e2) r2 (by simp))
 have HE := jh (e1.trans e2)
 clear r1 e1 hs e2 r2
 go_enter Tryz.func39, Tryz.ntmps39
 go_wp2_with fail
 refine HC.out.mono ?_
 rintro e w1 ⟨x, rfl, ho, hb⟩
 have HO := jh (own_mono ho HE.out.size)
 have HE := xt HE hb
 clear ho hb HC
 go_wp2_with fail
 go_ret
 exact ⟨x, rfl, own_eq HO.out (by rfl) rfl, HE.out⟩
theorem less_all {l : List UInt8} (hl : l.length = 32) (h : ∀ k, k < 32 → ((l.getD k 0).toNat : Int) = ORD.getD k 0) : lessB l = false := by
 have e : byl l = ORD := by
  refine ext_getD (by simp [byl, hl]; rfl) (fun i hi => ?_)
  rw [byl_getD]
  exact h i (by simpa [byl, hl] using hi)
 unfold lessB
 rw [decide_eq_false_iff_not, ← gV_bytes, ← ORD_val]
 change ¬ gV 256 (byl l) < _
 rw [e]
 omega
theorem less_at {l : List UInt8} (hl : l.length = 32) {i : Nat} (hi : i < 32) (h : ∀ k, i < k → k < 32 → ((l.getD k 0).toNat : Int) = ORD.getD k 0) (hne : ((l.getD i 0).toNat : Int) ≠ ORD.getD i 0) : lessB l = decide (((l.getD i 0).toNat : Int) < ORD.getD i 0) := by
 have hlen : (byl l).length = 32 := by simp [byl, hl]
 have holen : ORD.length = 32 := rfl
 have hd : (byl l).drop (i + 1) = ORD.drop (i + 1) := by
  refine ext_getD (by simp [hlen, holen]) (fun k hk => ?_)
  rw [zeg, zeg, byl_getD]
  exact h _ (by omega) (by simp [hlen] at hk; omega)
 have e1 : gV 256 (byl l) = gV 256 ((byl l).take i) + 256 ^ i * ((byl l).getD i 0 + 256 * gV 256 ((byl l).drop (i + 1))) := by
  have h := gV_cut 256 (byl l) i (by omega)
  rw [q164 (by omega), gV] at h
  rw [getD_eq (by omega)]
  exact h
 have e2 : gV 256 ORD = gV 256 (ORD.take i) + 256 ^ i * (ORD.getD i 0 + 256 * gV 256 (ORD.drop (i + 1))) := by
  have h := gV_cut 256 ORD i (by omega)
  rw [q164 (by omega), gV] at h
  rw [getD_eq (by omega)]
  exact h
 have r1 := gV_range (B := 256) (by omega) (zs := (byl l).take i) (fun k hk => by
  have hk2 : k < i := by simp at hk; omega
  rw [getD_take hk2]
  have := byl_range l k
  omega)
 have r2 := gV_range (B := 256) (by omega) (zs := ORD.take i) (fun k hk => by
  have hk2 : k < i := by simp at hk; omega
  rw [getD_take hk2]
  exact ORD_range k)
 rw [q112, q158 (by omega)] at r1 r2
 have hv : ((leN l : Nat) : Int) = gV 256 (byl l) := (gV_bytes l).symm
 unfold lessB
 rw [hv, ← ORD_val, e1, e2, hd, byl_getD]
 rw [Bool.eq_iff_iff, decide_eq_true_iff, decide_eq_true_iff]
 generalize gV 256 (ORD.drop (i + 1)) = R
 generalize gV 256 ((byl l).take i) = a at *
 generalize gV 256 (ORD.take i) = b at *
 generalize ((l.getD i 0).toNat : Int) = u at *
 generalize ORD.getD i 0 = v at *
 have hP : (0 : Int) < 256 ^ i := Int.pow_pos (by omega)
 generalize (256 : Int) ^ i = P at *
 constructor
 ·intro h1
  apply Classical.byContradiction
  intro h2
  have h3 : v + 1 ≤ u := by omega
  have h4 : P * (v + 256 * R + 1) ≤ P * (u + 256 * R) := Int.mul_le_mul_of_nonneg_left (by omega) (by omega)
  rw [Int.mul_add P (v + 256 * R) 1] at h4
  omega
 ·intro h1
  have h4 : P * (u + 256 * R + 1) ≤ P * (v + 256 * R) := Int.mul_le_mul_of_nonneg_left (by omega) (by omega)
  rw [Int.mul_add P (u + 256 * R) 1] at h4
  omega
theorem rLess_num (l : List UInt8) (w : World) (hl : l.length = 32) (hG : GlobO w) :
  Calls Tryz.prog 73 #[.agg (l.map bval).toArray] w fun e w' => e = .returned (.bool (lessB l)) ∧ Below w.heap.size w w' := by
 have HL := jh hl
 have HG := jh hG
 have HB := jh (Blk.made w (l.map bval) 23)
 have HA0 := jh (Ext.alloc w (.cells (l.map bval).toArray 23))
 clear hl hG
 go_enter Tryz.func73, Tryz.ntmps73
 go_wp2_with fail
 change Code.wp _ _ _ _ (w.alloc (.cells (l.map bval).toArray 23))
 generalize w.alloc (.cells (l.map bval).toArray 23) = w0 at *
 have h1 := HB.out
 have hE := HA0.out
 obtain ⟨A, hA⟩ : ∃ A, A = w.heap.size := ⟨_, rfl⟩
 rw [← hA] at h1 ⊢
 clear hA
 have H1 := jh h1
 have HE : Hid (Ext w w0) := jh hE
 clear h1 hE HB HA0
 go_loopw [3] (fun iv wr => ∃ (j : Nat), j ≤ 32 ∧ iv = .int .i64 ((j : Int) - 1) ∧ (∀ k, j ≤ k → k < 32 → ((l.getD k 0).toNat : Int) = ORD.getD k 0) ∧ Blk wr A (l.map bval) 23 ∧ Ext w wr) (fun iv _ => (intOf iv + 1).toNat)
 case atStart => exact ⟨32, by omega, rfl, fun k h1 h2 => by omega, H1.out, HE.out⟩
 case round =>
  clear H1 HE
  obtain ⟨j, hj, rfl, hal, hb1, hbel⟩ := hrel
  by_cases hlt : 1 ≤ j
  ·obtain ⟨i, rfl⟩ : ∃ i, j = i + 1 := ⟨j - 1, by omega⟩
   have hi1 : ((i + 1 : Nat) : Int) - 1 = (i : Int) := by omega
   rw [hi1]
   have i0 : (0 : Int) ≤ (i : Int) := Int.natCast_nonneg _
   have i32 : (i : Int) < 32 := by omega
   have e1 := hb1.cell i
   rw [zbg (by rw [HL.out]; omega)] at e1
   have eg := (HG.out.ext hbel).cell (j := i) (by omega)
   have q1 := ORD_range i
   have q2 := UInt8.toNat_lt (l.getD i 0)
   by_cases heq : ((l.getD i 0).toNat : Int) = ORD.getD i 0
   ·have HAL : Hid (∀ k, i ≤ k → k < 32 → ((l.getD k 0).toNat : Int) = ORD.getD k 0) := jh (fun k h1 h2 => by
     rcases (by omega : k = i ∨ i + 1 ≤ k) with rfl | g
     ·exact heq
     ·exact hal k g h2)
    rw [heq] at e1
    clear heq
    generalize ORD.getD i 0 = o at *
    have H1 := jh hb1
    have HE := jh hbel
    clear hal hb1 hbel hi1
    go_wp2_with fail
    go_region
    go_wp2_with fail
    go_roundw
    case rel => exact ⟨i, by omega, rfl, HAL.out, H1.out.drewN 1, HE.out.trans (Ext.drew _)⟩
    case measure => simp [intOf]
   ·have HLE := jh (less_at HL.out (by omega) (fun k h1 h2 => hal k h1 h2) heq)
    generalize ORD.getD i 0 = o at *
    generalize (l.getD i 0).toNat = c at *
    have HE := jh hbel
    clear hal hb1 hbel hi1
    have hne : (c : Int) < o ∨ o < (c : Int) := by omega
    clear heq
    rcases hne with hlt2 | hlt2
    ·have HF : Hid (lessB l = true) := jh (by rw [HLE.out]; exact decide_eq_true hlt2)
     have hd : ((c : Int) != o) = true := by simp; omega
     go_wp2_with fail
     go_region
     go_wp2_with fail
     go_region
     go_wp2_with fail
     go_ret
     exact ⟨by rw [HF.out]; rfl, (HE.out.trans (Ext.drew _)).trans (Ext.drew _)⟩
    ·have HF : Hid (lessB l = false) := jh (by rw [HLE.out]; exact decide_eq_false (by omega))
     have hd : ((c : Int) != o) = true := by simp; omega
     go_wp2_with fail
     go_region
     go_wp2_with fail
     go_region
     go_wp2_with fail
     go_ret
     exact ⟨by rw [HLE.out]; rfl, (HE.out.trans (Ext.drew _)).trans (Ext.drew _)⟩
  ·have hj0 : j = 0 := by omega
   subst hj0
   have HF : Hid (lessB l = false) := jh (less_all HL.out (fun k hk => hal k (by omega) hk))
   have he0 : ((0 : Nat) : Int) - 1 = -1 := rfl
   rw [he0]
   have HE := jh hbel
   clear hal hb1 hbel
   go_wp2_with fail
   go_ret
   exact ⟨by rw [HF.out]; rfl, HE.out⟩
