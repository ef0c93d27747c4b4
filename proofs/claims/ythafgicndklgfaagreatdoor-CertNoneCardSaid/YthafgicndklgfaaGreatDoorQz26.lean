/- Texts that belong together, one behind the other. -/
import Derived.Test.YthafgicndklgfaaGreatDoorRows
import Derived.Test.YthafgicndklgfaaGreatDoorQz05
namespace Go.Proofs.YthafgicndklgfaaGreatDoor
set_option linter.unusedVariables false
set_option maxRecDepth 100000
set_option maxHeartbeats 32000000
set_option linter.unusedSimpArgs false
open Go.RowKit
theorem pairAt_range (l : List UInt8) (i : Nat) : 0 ≤ pairAt l i ∧ pairAt l i ≤ 65535 := by
 unfold pairAt
 have h1 := (l.getD (2 * i) 0).toNat_lt
 have h2 := (l.getD (2 * i + 1) 0).toNat_lt
 omega
theorem or8 (x y : Nat) (hx : x < 256) (hy : y < 256) : bits .or .i64 (x : Int) ((y : Int) * 256) = x + 256 * (y : Int) := by
 have e1 : (BitVec.ofInt 64 (x : Int)).toNat = x := by rw [BitVec.toNat_ofInt]; omega
 have e2 : (BitVec.ofInt 64 ((y : Int) * 256)).toNat = 256 * y := by rw [BitVec.toNat_ofInt]; omega
 show IntKind.i64.wrap ((BitVec.ofInt 64 (x : Int) ||| BitVec.ofInt 64 ((y : Int) * 256)).toNat : Nat) = _
 rw [BitVec.toNat_or, e1, e2, Nat.or_comm]
 have := Nat.two_pow_add_eq_or_of_lt (i := 8) (b := x) (by simpa using hx) y
 have h2 : 256 * y ||| x = 256 * y + x := this.symm
 rw [h2, IntKind.wrap_i64]
 omega
structure InS (l : List UInt8) (zs : List Int) (k : Nat) : Prop where
 len : zs.length = 16
 low : ∀ i, i < k → zs.getD i 0 = pairAt l i
theorem InS.step {l : List UInt8} {zs : List Int} {k : Nat} (h : InS l zs k) (hk : k < 16) : InS l (zs.set k (pairAt l k)) (k + 1) := by
 obtain ⟨h1, h2⟩ := h
 refine ⟨by simp [h1], fun i hi => ?_⟩
 by_cases e : i = k
 ·subst e
  rw [zat (by omega)]
 ·rw [zam (by omega)]
  exact h2 i (by omega)
theorem InS.done {l : List UInt8} {zs : List Int} (h : InS l zs 16) (hl : l.length = 32) : (∀ z ∈ zs, 0 ≤ z ∧ z ≤ 65535) ∧ dV zs = leN l := by
 refine ⟨fun z hz => ?_, dV_pairs zs l h.len hl h.low⟩
 obtain ⟨i, hi, rfl⟩ := List.getElem_of_mem hz
 have hlen := h.len
 have := h.low i (by omega)
 rw [show zs[i] = zs.getD i 0 from by simp [List.getD, hi], this]
 exact pairAt_range l i
/-- in: the digits of a Num. -/
theorem rin_any (l : List UInt8) (w : World) (hl : l.length = 32) :
  Calls Tryz.prog 78 #[.agg (l.map bval).toArray] w fun e w' => ∃ zs : List Int, e = .returned (.agg (ints .i64 zs).toArray) ∧ zs.length = 16 ∧ (∀ z ∈ zs, 0 ≤ z ∧ z ≤ 65535) ∧ dV zs = leN l ∧ Below w.heap.size w w' := by
 have HL := jh hl
 have hbx := boxes3 w (l.map bval) (ints .i64 (List.replicate 16 0)) (ints .i64 (List.replicate 16 0)) 23 68 68
 have HBX := jh hbx
 clear hl hbx
 go_enter Tryz.func78, Tryz.ntmps78
 go_wp2_with fail
 change Code.wp _ _ _ _ (((w.alloc (.cells (l.map bval).toArray 23)).alloc (.cells (ints .i64 (List.replicate 16 0)).toArray 68)).alloc (.cells (ints .i64 (List.replicate 16 0)).toArray 68))
 generalize ((w.alloc (.cells (l.map bval).toArray 23)).alloc (.cells (ints .i64 (List.replicate 16 0)).toArray 68)).alloc (.cells (ints .i64 (List.replicate 16 0)).toArray 68) = w0 at *
 obtain ⟨h1, h2, h3, h4⟩ := HBX.out
 obtain ⟨A, hA⟩ : ∃ A, A = w.heap.size := ⟨_, rfl⟩
 rw [← hA] at h1 h2 h3 ⊢
 have hA2 : w.heap.size ≤ A := by omega
 have H1 := jh h1
 have H2 := jh h2
 have H3 := jh h3
 have H4 := jh h4
 clear h1 h2 h3 h4 HBX hA
 go_loopw [4] (fun i wr => ∃ (k : Nat) (zs : List Int), k ≤ 16 ∧ i = .int .i64 k ∧ InS l zs k ∧ Blk wr A (l.map bval) 23 ∧ Blk wr (A + 1) (ints .i64 (List.replicate 16 0)) 68 ∧ Blk wr (A + 1 + 1) (ints .i64 zs) 68 ∧ Below w.heap.size w wr) (fun i _ => 16 - (intOf i).toNat)
 case atStart => exact ⟨0, _, by omega, rfl, ⟨rfl, fun i hi => by omega⟩, H1.out, H2.out, H3.out, H4.out⟩
 case round =>
  clear H1 H2 H3 H4
  obtain ⟨k, zs, hk, rfl, hin, hb1, hb2, hb3, hbel⟩ := hrel
  have i0' : (0 : Int) ≤ (k : Int) := Int.natCast_nonneg _
  have hl16 := hin.len
  by_cases hlt : k < 16
  ·have hl := HL.out
   have e1 := hb1.cell (2 * k)
   rw [zbu (by omega)] at e1
   have e2 := hb1.cell (2 * k + 1)
   rw [zbu (by omega)] at e2
   have e3 := hb3.cell k
   rw [zav (by omega)] at e3
   have fk := hb3.free k
   have i1 : (k : Int) < 16 := by omega
   have s1 : IntKind.i64.wrap (2 * (k : Int)) = 2 * k := IntWalk.i64_in _ (by omega)
   have s2 : IntKind.i64.wrap (2 * (k : Int) + 1) = 2 * k + 1 := IntWalk.i64_in _ (by omega)
   have s3 : (2 * (k : Int)).toNat = 2 * k := by omega
   have s4 : (2 * (k : Int) + 1).toNat = 2 * k + 1 := by omega
   have s5 : (0 : Int) ≤ 2 * (k : Int) := by omega
   have s6 : (0 : Int) ≤ 2 * (k : Int) + 1 := by omega
   have s7 : 2 * (k : Int) < 32 := by omega
   have s8 : 2 * (k : Int) + 1 < 32 := by omega
   have hx := (l.getD (2 * k) 0).toNat_lt
   have hy := (l.getD (2 * k + 1) 0).toNat_lt
   have hor := or8 (l.getD (2 * k) 0).toNat (l.getD (2 * k + 1) 0).toNat (by simpa using hx) (by simpa using hy)
   have hst := hin.step hlt
   have hpa : pairAt l k = (l.getD (2 * k) 0).toNat + 256 * ((l.getD (2 * k + 1) 0).toNat : Int) := rfl
   rw [hpa, ← hor] at hst
   generalize (l.getD (2 * k) 0).toNat = x at *
   generalize (l.getD (2 * k + 1) 0).toNat = y at *
   have hy2 : y < 256 := by simpa using hy
   have hx2 : x < 256 := by simpa using hx
   have W1 : Hid (wrap64 (x : Int) = x) := jh (by rw [← IntWalk.i64_left]; exact IntWalk.i64_in _ (by omega))
   have W2 : Hid (wrap64 (y : Int) = y) := jh (by rw [← IntWalk.i64_left]; exact IntWalk.i64_in _ (by omega))
   have W3 : Hid (wrap64 ((y : Int) * 256) = y * 256) := jh (by rw [← IntWalk.i64_left]; exact IntWalk.i64_in _ (by omega))
   have HST := jh hst
   have HB1 := jh hb1
   have HB2 := jh hb2
   have HB3 := jh hb3
   have HBE := jh hbel
   clear hin hst hb1 hb2 hb3 hbel hl16 hl hor hpa hx hy hx2 hy2
   go_wp2_with fail
   go_region
   go_wp2_with fail
   go_roundw
   case rel =>
    rw [W1.out, W2.out, W3.out]
    refine ⟨k + 1, _, by omega, by go_num, HST.out, HB1.out.far (by simp; omega) _, HB2.out.far (by simp) _, ?_, (HBE.out.setCell (by simp; omega) _).drew⟩
    rw [← zbz]
    exact HB3.out.set k _
   case measure => simp [intOf]; omega
  ·have hk' : k = 16 := by omega
   subst hk'
   have HB2 := jh hb2
   have HB3 := jh hb3
   have HBE := jh hbel
   have HIN := jh hin
   have hi1 : Hid ((Tryz.prog.info? 68).map (·.size) = some (ints .i64 zs).length) := jh (by rw [zac, hin.len]; exact Tryz.arr68)
   have hl1 : Hid ((ints .i64 zs).length = (ints .i64 (List.replicate 16 0)).length) := jh (by rw [zac, zac, hin.len]; rfl)
   clear hb1 hb2 hb3 hbel hin hl16
   go_wp2_with (first | (refine zae rfl _ _ rfl (A + 1 + 1) rfl _ _ _ _ HB3.out Tryz.underlying68 hi1.out ?_) | (refine zab rfl _ _ _ rfl (A + 1) _ rfl rfl _ _ HB2.out hl1.out hi1.out (zao _ _) ?_; intro w5 hb5 hg5))
   obtain ⟨q1, q2⟩ := HIN.out.done HL.out
   exact bodyPost_ret (v := .agg (ints .i64 zs).toArray) (zbn (by rfl) _ (A + 1) _ _ _ _ (by rfl) hb5 Tryz.underlying68 hi1.out) rfl ⟨zs, rfl, HIN.out.len, q1, q2, HBE.out.grown hg5 HBE.out.size (fun r hr => by cases hr; omega)⟩
theorem rin_el (l : List UInt8) (w : World) (hl : l.length = 32) :
  Calls Tryz.prog 78 #[.agg (l.map bval).toArray] w fun e w' => ∃ r, e = .returned r ∧ IsEl r (leN l) ∧ Below w.heap.size w w' := by
 refine (rin_any l w hl).mono ?_
 rintro e w' ⟨zs, rfl, h1, h2, h3, h4⟩
 exact ⟨_, rfl, ⟨zs, rfl, h1, fun z hz => by have := h2 z hz; omega, 0, by rw [h3]; omega⟩, h4⟩
theorem rin_f (l : List UInt8) (w : World) (hl : l.length = 32) : Calls Tryz.prog 78 #[.agg (l.map bval).toArray] w fun e w' => ∃ r, e = .returned r ∧ ElF r (fp (leN l)) ∧ Below w.heap.size w w' := by
 refine (rin_el l w hl).mono ?_
 rintro e w' ⟨r, rfl, hr, hb⟩
 exact ⟨r, rfl, ⟨_, hr, rfl⟩, hb⟩
section
section
variable {P : Program} {ops : Array Oper} {S : World → Prop}
theorem yi_neqB {o : Oper} {a : Act} (ty rt e : TypeId) (x y : Operand) (n : Nat) (i : TypeInfo) (xs ys : List UInt8) (r : Bool) (hw : Region.wanted o (yielded ops a.tmps) = true) (ho : o.op = .binOp .neq ty x y rt) (hb : decide (xs = ys) = !r)
  (hu : P.underlying ty = some (.array n e)) (he : P.underlying e = some (.int .u8)) (hi : P.info? e = some i) (hc : P.cellsOf e = 1) (hg : P.eqGuardType P.depth ty = false)
  (hx : a.eval x = .agg (xs.map bval).toArray) (hy : a.eval y = .agg (ys.map bval).toArray) (lx : xs.length = n) (ly : ys.length = n) : YieldsIf P ops S o (.bool r) a :=
 zbl _ hw (fun w _ => by
  have h1 := run_equal_bytes hu he hi hc xs ys lx ly w
  rw [hb] at h1
  unfold execOp
  simp [ho, hx, hy, eqGuard, hg, binOp, h1])
end
end
theorem f_neg (a : Fp) : 0 - a = -a := by grind
theorem nbF_zer {f : Fp} (h : nbF f = zer) : f = 0 := by
 have h1 : leN (nbF f) = 0 := by rw [h, leN_zer]
 have h2 := zel 32 f.val
 have h3 : f.val < 256 ^ 32 := Nat.lt_trans f.isLt (by decide +kernel)
 unfold nbF at h1
 rw [h1, Nat.mod_eq_of_lt h3] at h2
 exact Fin.ext h2.symm
theorem nbF_nought : nbF 0 = zer := by decide +kernel
theorem reighth_any (w : World) : Calls Tryz.prog 109 #[] w fun e w' => e = .returned (.agg ((bytesN 32 pE).map bval).toArray) ∧ Below w.heap.size w w' := by
 have HBX := jh (boxes2 w (ints .u8 (List.replicate 32 0)) (ints .u8 (List.replicate 32 0)) 23 23)
 go_enter Tryz.func109, Tryz.ntmps109
 go_wp2_with fail
 change Code.wp _ _ _ _ ((w.alloc (.cells (ints .u8 (List.replicate 32 0)).toArray 23)).alloc (.cells (ints .u8 (List.replicate 32 0)).toArray 23))
 generalize (w.alloc (.cells (ints .u8 (List.replicate 32 0)).toArray 23)).alloc (.cells (ints .u8 (List.replicate 32 0)).toArray 23) = w0 at *
 obtain ⟨h1, h2, h3⟩ := HBX.out
 obtain ⟨A, hA⟩ : ∃ A, A = w.heap.size := ⟨_, rfl⟩
 rw [← hA] at h1 h2 ⊢
 have hA2 : w.heap.size ≤ A := by omega
 have H1 := jh h1
 have H2 := jh h2
 have H3 := jh h3
 clear h1 h2 h3 HBX hA
 go_loopw [2] (fun i wr => ∃ (k : Nat) (bs : List Int), k ≤ 32 ∧ i = .int .i64 k ∧ FullB bs k ∧ Blk wr A (ints .u8 (List.replicate 32 0)) 23 ∧ Blk wr (A + 1) (ints .u8 bs) 23 ∧ Below w.heap.size w wr) (fun i _ => 32 - (intOf i).toNat)
 case atStart => exact ⟨0, _, by omega, rfl, ⟨rfl, fun j hj => by omega⟩, H1.out, H2.out, H3.out⟩
 case round =>
  clear H1 H2 H3
  obtain ⟨k, bs, hk, rfl, hfb, hb1, hb2, hbel⟩ := hrel
  have i0' : (0 : Int) ≤ (k : Int) := Int.natCast_nonneg _
  have hlen := hfb.len
  by_cases hlt : k < 32
  ·have i1 : (k : Int) < 32 := by omega
   have e1 := hb2.cell k
   rw [zav (by omega)] at e1
   have f1 := hb2.free k
   have hst := hfb.step hlt
   have HST := jh hst
   have H1 := jh hb1
   have H2 := jh hb2
   have H3 := jh hbel
   clear hb1 hb2 hbel hfb hst hlen
   go_wp2_with fail
   go_roundw
   case rel =>
    refine ⟨k + 1, _, by omega, by go_num, HST.out, H1.out.far (by simp) _, ?_, H3.out.setCell (by simp; omega) _⟩
    rw [← zbz]
    exact H2.out.set k _
   case measure => simp [intOf]; omega
  ·have hk' : k = 32 := by omega
   subst hk'
   have hd := hfb.done
   subst hd
   have e1 : wr.cell? ⟨A + 1, 31, none⟩ = some (.int .u8 255) := by rw [hb2.cell 31]; rfl
   have e2 : wr.cell? ⟨A + 1, 0, none⟩ = some (.int .u8 255) := by rw [hb2.cell 0]; rfl
   have f1 := hb2.free 31
   have f2 := hb2.free 0
   have hb3 := (hb2.set 0 (.int .u8 254)).set 31 (.int .u8 15)
   have hb4 := (hb1.far (a := ⟨A + 1, 0, none⟩) (by simp) (.int .u8 254)).far (a := ⟨A + 1, 31, none⟩) (by simp) (.int .u8 15)
   rw [zbz, zbz] at hb3
   have e3 : ints .u8 (((List.replicate 32 255).set 0 254).set 31 15) = (bytesN 32 pE).map bval := by kernel_rfl
   rw [e3] at hb3
   have hb5 : Below w.heap.size w ((wr.setCell ⟨A + 1, 0, none⟩ (.int .u8 254)).setCell ⟨A + 1, 31, none⟩ (.int .u8 15)) := (hbel.setCell (by simp; omega) _).setCell (by simp; omega) _
   have H3 := jh hb3
   have H4 := jh hb4
   have H5 := jh hb5
   have hi1 : Hid ((Tryz.prog.info? 23).map (·.size) = some ((bytesN 32 pE).map bval).length) := jh (by rw [List.length_map, zbf]; exact Tryz.arr23)
   have hl1 : Hid (((bytesN 32 pE).map bval).length = (ints .u8 (List.replicate 32 0)).length) := jh (by rw [List.length_map, zbf]; rfl)
   clear hb1 hb2 hb3 hb4 hb5 hbel hfb hlen e3
   go_wp2_with (first | (refine zae rfl _ _ rfl (A + 1) rfl _ _ _ _ H3.out Tryz.underlying23 hi1.out ?_) | (refine zab rfl _ _ _ rfl A _ rfl rfl _ _ H4.out hl1.out hi1.out (zaj _) ?_; intro w7 hb7 hg7))
   exact bodyPost_ret (v := .agg ((bytesN 32 pE).map bval).toArray) (zbn (by rfl) _ A _ _ _ _ (by rfl) hb7 Tryz.underlying23 hi1.out) rfl ⟨rfl, H5.out.grown hg7 H5.out.size (fun r hr => by cases hr; omega)⟩
theorem leN_p2 : leN (bytesN 32 pE) = pE := by decide +kernel
theorem leN_eighth : leN (bytesN 32 pE) = pE := by decide +kernel
theorem rsame_any (u v : Value) (x y : Int) (w : World) (hu : IsEl u x) (hv : IsEl v y) :
  Calls Tryz.prog 110 #[u, v] w fun e w' => e = .returned (.bool (decide (nb x = nb y))) ∧ Below w.heap.size w w' := by
 have HU := jh hu
 have HV := jh hv
 obtain ⟨xs, rfl, la, ba, qa, va⟩ := hu
 obtain ⟨ys, rfl, lb, bb, qb, vb⟩ := hv
 have HI1 : Hid ((Tryz.prog.info? 68).map (·.size) = some (ints .i64 xs).length) := jh (by rw [zac, la]; exact Tryz.arr68)
 have HI2 : Hid ((Tryz.prog.info? 68).map (·.size) = some (ints .i64 ys).length) := jh (by rw [zac, lb]; exact Tryz.arr68)
 have HB := jh (boxes2 w (ints .i64 xs) (ints .i64 ys) 68 68)
 clear la ba va lb bb vb
 go_enter Tryz.func110, Tryz.ntmps110
 go_wp2_with fail
 change Code.wp _ _ _ _ ((w.alloc (.cells (ints .i64 xs).toArray 68)).alloc (.cells (ints .i64 ys).toArray 68))
 generalize (w.alloc (.cells (ints .i64 xs).toArray 68)).alloc (.cells (ints .i64 ys).toArray 68) = w0 at *
 obtain ⟨h1, h2, hE⟩ := HB.out
 obtain ⟨A, hA⟩ : ∃ A, A = w.heap.size := ⟨_, rfl⟩
 rw [← hA] at h1 h2 ⊢
 have hA2 : w.heap.size ≤ A := by omega
 have H1 := jh h1
 have H2 := jh h2
 have HE : Hid (Ext w w0) := jh hE
 clear h1 h2 hE HB
 by_cases he : nb x = nb y
 ·skip
  refine zbm (by kernel_rfl) (by kernel_rfl) ?_
  refine zbg _ _ A (ints .i64 xs) _ (by rfl) rfl rfl (fun w hw => zaz H1.out hw) Tryz.underlying68 rfl HI1.out ?_
  simp only [Act.put, nrm]
  refine zah _ _ _ [.agg (ints .i64 xs).toArray] (.agg ((nb x).map bval).toArray) (by rfl) rfl Tryz.call68 rfl (fun w hw => rout_any _ x w HU.out) ?_
  simp only [Act.put, nrm]
  refine zbg _ _ (A + 1) (ints .i64 ys) _ (by rfl) rfl rfl (fun w hw => zaz H2.out hw) Tryz.underlying68 rfl HI2.out ?_
  simp only [Act.put, nrm]
  refine zah _ _ _ [.agg (ints .i64 ys).toArray] (.agg ((nb y).map bval).toArray) (by rfl) rfl Tryz.call68 rfl (fun w hw => rout_any _ y w HV.out) ?_
  simp only [Act.put, nrm]
  refine det_eql _ _ _ _ _ _ 32 _ (nb x) (nb y) true (by rfl) rfl (Or.inl ⟨rfl, decide_eq_true he⟩) Tryz.underlying23 Tryz.underlying5 zcv zck zco rfl rfl (zca _) (zca _) ?_
  simp only [Act.put, nrm]
  refine zbs _ (.bool true) (by rfl) rfl rfl ?_
  simp only [Act.put, nrm]
  refine zba (fun w9 hw9 => ?_)
  go_wp2_with fail
  go_ret
  exact ⟨by rw [decide_eq_true he]; rfl, HE.out.trans hw9⟩
 ·skip
  refine zbm (by kernel_rfl) (by kernel_rfl) ?_
  refine zbg _ _ A (ints .i64 xs) _ (by rfl) rfl rfl (fun w hw => zaz H1.out hw) Tryz.underlying68 rfl HI1.out ?_
  simp only [Act.put, nrm]
  refine zah _ _ _ [.agg (ints .i64 xs).toArray] (.agg ((nb x).map bval).toArray) (by rfl) rfl Tryz.call68 rfl (fun w hw => rout_any _ x w HU.out) ?_
  simp only [Act.put, nrm]
  refine zbg _ _ (A + 1) (ints .i64 ys) _ (by rfl) rfl rfl (fun w hw => zaz H2.out hw) Tryz.underlying68 rfl HI2.out ?_
  simp only [Act.put, nrm]
  refine zah _ _ _ [.agg (ints .i64 ys).toArray] (.agg ((nb y).map bval).toArray) (by rfl) rfl Tryz.call68 rfl (fun w hw => rout_any _ y w HV.out) ?_
  simp only [Act.put, nrm]
  refine det_eql _ _ _ _ _ _ 32 _ (nb x) (nb y) false (by rfl) rfl (Or.inl ⟨rfl, decide_eq_false he⟩) Tryz.underlying23 Tryz.underlying5 zcv zck zco rfl rfl (zca _) (zca _) ?_
  simp only [Act.put, nrm]
  refine zbs _ (.bool false) (by rfl) rfl rfl ?_
  simp only [Act.put, nrm]
  refine zba (fun w9 hw9 => ?_)
  go_wp2_with fail
  go_ret
  exact ⟨by rw [decide_eq_false he]; rfl, HE.out.trans hw9⟩
def RTL : List Int := [41136, 18958, 6951, 50414, 58488, 44335, 6150, 12099, 55207, 15867, 153, 11085, 57099, 20417, 9344, 11139]
theorem rt_el : IsEl (.agg (ints .i64 RTL).toArray) sm1 := ⟨RTL, rfl, rfl, by decide +kernel, 0, by decide +kernel⟩
def Glob (w : World) : Prop := w.rangeAt 6 0 (ints .i64 RTL)
theorem Glob.ext {w w' : World} (h : Glob w) (hb : Ext w w') : Glob w' := zfn h hb
theorem rroot_any (u : Value) (x : Int) (w : World) (hu : IsEl u x) (hG : Glob w) :
  Calls Tryz.prog 79 #[u] w fun e w' => (∃ r, e = .returned (.tuple #[r, .bool (rootB x)]) ∧ IsEl r (rootR x)) ∧ Below w.heap.size w w' := by
 have HUE := jh hu
 obtain ⟨xs, rfl, la, ba, qa, va⟩ := hu
 have HU := jh Tryz.underlying68
 have HI1 : Hid ((Tryz.prog.info? 68).map (·.size) = some (ints .i64 xs).length) := jh (by rw [zac, la]; exact Tryz.arr68)
 have HGW := jh hG
 have HBX := jh (boxes2 w (ints .i64 xs) (ints .i64 (List.replicate 16 0)) 68 68)
 clear la ba va hG
 go_enter Tryz.func79, Tryz.ntmps79
 go_wp2_with fail
 change Code.wp _ _ _ _ ((w.alloc (.cells (ints .i64 xs).toArray 68)).alloc (.cells (ints .i64 (List.replicate 16 0)).toArray 68))
 generalize (w.alloc (.cells (ints .i64 xs).toArray 68)).alloc (.cells (ints .i64 (List.replicate 16 0)).toArray 68) = w0 at *
 obtain ⟨h1, h2, h4⟩ := HBX.out
 obtain ⟨A, hA⟩ : ∃ A, A = w.heap.size := ⟨_, rfl⟩
 rw [← hA] at h1 h2 ⊢
 have hA2 : w.heap.size ≤ A := by omega
 have H1 := jh h1
 have H3 := jh h2
 have H4 : Hid (Ext w w0) := jh h4
 clear h1 h2 h4 HBX hA
 go_cut [4] from 5 to 22 (fun v wc => ∃ (c : Nat) (zs : List Int), v = .pointer (some ⟨c, 0, none⟩) ∧ A + 1 < c ∧ Blk wc c (ints .i64 zs) 68 ∧ zs.length = 16 ∧ IsEl (.agg (ints .i64 zs).toArray) (x ^ pE) ∧ Ext w0 wc)
 case first =>
  have B0 : Below w0.heap.size w0 w0.drew := (Below.refl _ _).drew
  refine wp_region_held_drew (S := fun w' => w'.rangeAt A 0 (ints .i64 xs)) (by kernel_rfl) (zbe H1.out B0) (fun hHeld => ?_)
  refine tke 0 (.agg (ints .i64 xs).toArray) rfl (yieldsIf_load_mid (by rfl) _ _ rfl A 0 rfl _ _ (fun w h => h) HU.out rfl HI1.out) hHeld ?_
  try simp only [Act.put, nrm]
  refine wpAnyH_ready (rs := [1, 3]) (by kernel_rfl) (by simp) (AllReadyH.cons rfl (fun K hK => ?_) (AllReadyH.cons rfl (fun K hK => ?_) AllReadyH.nil))
  ·skip
   go_simp
   refine (reighth_any _).mono ?_
   rintro e w1 ⟨rfl, b1⟩
   have B1 := B0.trans (b1.mono B0.size)
   refine hK.out _ _ (zbe H1.out B1) (fun hHeld => ?_)
   clear hK K hHeld
   try simp only [Act.put, nrm]
   refine wpAnyH_ready (rs := [2, 3]) (by kernel_rfl) (by simp) (AllReadyH.cons rfl (fun K hK => ?_) (AllReadyH.cons rfl (fun K hK => ?_) AllReadyH.nil))
   ·skip
    go_simp
    refine (rpow_any _ _ (bytesN 32 pE) _ HUE.out (zbf 32 pE)).mono ?_
    rintro e w2 ⟨r2, rfl, e2, b2⟩
    rw [leN_eighth] at e2
    obtain ⟨zs, rfl, lz, bz, qz, vz⟩ := id e2
    have B2 := B1.trans (b2.mono B1.size)
    refine hK.out _ _ (zbe H1.out B2) (fun hHeld => ?_)
    clear hK K hHeld
    try simp only [Act.put, nrm]
    refine rdy 3 rfl fun K hK => ?_
    go_simp
    have hMD := Blk.made w2 (ints .i64 (List.replicate 16 0)) 68
    have BA := B2.trans ((Ext.alloc w2 (.cells (ints .i64 (List.replicate 16 0)).toArray 68)).mono B2.size)
    refine hK.out _ _ (zbe H1.out BA) (fun hHeld => ?_)
    clear hK K hHeld
    try simp only [Act.put, nrm]
    refine rdy 4 rfl fun K hK => ?_
    rw [if_pos (by rfl)]
    have hi2 : (Tryz.prog.info? 68).map (·.size) = some (ints .i64 zs).length := by rw [zac, lz]; exact Tryz.arr68
    have hlt : A + 1 < w2.heap.size := by have := (bl_blk H3.out B2).lt; simpa using this
    have hMD2 := hMD
    refine zak _ _ _ rfl w2.heap.size (ints .i64 zs) rfl rfl _ _ hMD2 (by rw [zac, zac, lz]; rfl) hi2 (zao _ _) ?_
    intro w5 hb5 hg5
    refine hK.out _ _ ((bl_blk H1.out BA).grown hg5 (by simp; omega)).range (fun hHeld => ?_)
    clear hK K hHeld
    refine dne ?_
    have BE : Ext w0 w5 := Below.grown BA hg5 BA.size (fun r hr => by cases hr; have := H3.out.lt; have := B2.size; omega)
    go_wp2_with fail
    go_meet
    exact ⟨_, zs, rfl, hlt, hb5, lz, e2, BE⟩
   ·skip
    go_simp
    have hMD := Blk.made w1 (ints .i64 (List.replicate 16 0)) 68
    have BA := B1.trans ((Ext.alloc w1 (.cells (ints .i64 (List.replicate 16 0)).toArray 68)).mono B1.size)
    refine hK.out _ _ (zbe H1.out BA) (fun hHeld => ?_)
    clear hK K hHeld
    try simp only [Act.put, nrm]
    refine rdy 2 rfl fun K hK => ?_
    go_simp
    refine (rpow_any _ _ (bytesN 32 pE) _ HUE.out (zbf 32 pE)).mono ?_
    rintro e w2 ⟨r2, rfl, e2, b2⟩
    rw [leN_eighth] at e2
    obtain ⟨zs, rfl, lz, bz, qz, vz⟩ := id e2
    have B2 := BA.trans (b2.mono BA.size)
    refine hK.out _ _ (zbe H1.out B2) (fun hHeld => ?_)
    clear hK K hHeld
    try simp only [Act.put, nrm]
    refine rdy 4 rfl fun K hK => ?_
    rw [if_pos (by rfl)]
    have hi2 : (Tryz.prog.info? 68).map (·.size) = some (ints .i64 zs).length := by rw [zac, lz]; exact Tryz.arr68
    have hlt : A + 1 < w1.heap.size := by have := (bl_blk H3.out B1).lt; simpa using this
    have hMD2 := bl_blk hMD b2
    refine zak _ _ _ rfl w1.heap.size (ints .i64 zs) rfl rfl _ _ hMD2 (by rw [zac, zac, lz]; rfl) hi2 (zao _ _) ?_
    intro w5 hb5 hg5
    refine hK.out _ _ ((bl_blk H1.out B2).grown hg5 (by simp; omega)).range (fun hHeld => ?_)
    clear hK K hHeld
    refine dne ?_
    have BE : Ext w0 w5 := Below.grown B2 hg5 B2.size (fun r hr => by cases hr; have := H3.out.lt; have := B1.size; omega)
    go_wp2_with fail
    go_meet
    exact ⟨_, zs, rfl, hlt, hb5, lz, e2, BE⟩
  ·skip
   go_simp
   have hMD := Blk.made w0.drew (ints .i64 (List.replicate 16 0)) 68
   have BA := B0.trans ((Ext.alloc w0.drew (.cells (ints .i64 (List.replicate 16 0)).toArray 68)).mono B0.size)
   refine hK.out _ _ (zbe H1.out BA) (fun hHeld => ?_)
   clear hK K hHeld
   try simp only [Act.put, nrm]
   refine rdy 1 rfl fun K hK => ?_
   go_simp
   refine (reighth_any _).mono ?_
   rintro e w1 ⟨rfl, b1⟩
   have B1 := BA.trans (b1.mono BA.size)
   refine hK.out _ _ (zbe H1.out B1) (fun hHeld => ?_)
   clear hK K hHeld
   try simp only [Act.put, nrm]
   refine rdy 2 rfl fun K hK => ?_
   go_simp
   refine (rpow_any _ _ (bytesN 32 pE) _ HUE.out (zbf 32 pE)).mono ?_
   rintro e w2 ⟨r2, rfl, e2, b2⟩
   rw [leN_eighth] at e2
   obtain ⟨zs, rfl, lz, bz, qz, vz⟩ := id e2
   have B2 := B1.trans (b2.mono B1.size)
   refine hK.out _ _ (zbe H1.out B2) (fun hHeld => ?_)
   clear hK K hHeld
   try simp only [Act.put, nrm]
   refine rdy 4 rfl fun K hK => ?_
   rw [if_pos (by rfl)]
   have hi2 : (Tryz.prog.info? 68).map (·.size) = some (ints .i64 zs).length := by rw [zac, lz]; exact Tryz.arr68
   have hlt : A + 1 < w0.heap.size := by have := (bl_blk H3.out (Below.refl w0.heap.size w0)).lt; simpa using this
   have hMD2 := bl_blk (bl_blk hMD b1) b2
   refine zak _ _ _ rfl w0.heap.size (ints .i64 zs) rfl rfl _ _ hMD2 (by rw [zac, zac, lz]; rfl) hi2 (zao _ _) ?_
   intro w5 hb5 hg5
   refine hK.out _ _ ((bl_blk H1.out B2).grown hg5 (by simp; omega)).range (fun hHeld => ?_)
   clear hK K hHeld
   refine dne ?_
   have BE : Ext w0 w5 := Below.grown B2 hg5 B2.size (fun r hr => by cases hr; have := H3.out.lt; have := (Below.refl w0.heap.size w0).size; omega)
   go_wp2_with fail
   go_meet
   exact ⟨_, zs, rfl, hlt, hb5, lz, e2, BE⟩
 case rest =>
  obtain ⟨c, zs, rfl, hc, hbc, lz, ez, hE⟩ := hcut
  obtain ⟨y, hy⟩ : ∃ y, y = x ^ pE := ⟨_, rfl⟩
  have HY1 : Hid (nb (y * y) = nb x → rootR x = y) := jh (fun h => by unfold rootR; rw [← hy, if_pos h])
  have HY2 : Hid (¬ nb (y * y) = nb x → rootR x = y * sm1) := jh (fun h => by unfold rootR; rw [← hy, if_neg h])
  rw [← hy] at ez
  have HZE := jh ez
  have HC := jh hbc
  have HA1 := jh (zaa H1.out hE)
  have HA2 := jh (zaa H3.out hE)
  have HEW : Hid (Ext w wc) := jh (H4.out.trans hE)
  have HI2 : Hid ((Tryz.prog.info? 68).map (·.size) = some (ints .i64 zs).length) := jh (by rw [zac, lz]; exact Tryz.arr68)
  have HIR : Hid ((Tryz.prog.info? 68).map (·.size) = some (ints .i64 RTL).length) := jh (by rw [zac]; exact Tryz.arr68)
  have HLZ := jh lz
  clear hbc lz ez hE hy H1 H3 H4
  by_cases hsq : nb (y * y) = nb x
  ·skip
   go_wp2_with fail
   have B0 : Below wc.heap.size wc wc.drew := (Below.refl _ _).drew
   refine wp_region_held_drew (S := fun w' => w'.rangeAt A 0 (ints .i64 xs) ∧ w'.rangeAt c 0 (ints .i64 zs)) (by kernel_rfl) ⟨zbe HA1.out B0, zbe HC.out B0⟩ (fun hHeld => ?_)
   refine tke 0 (.agg (ints .i64 zs).toArray) rfl (yieldsIf_load_mid (by rfl) _ _ rfl c 0 rfl _ _ (fun w h => h.2) HU.out rfl HI2.out) hHeld ?_
   try simp only [Act.put, nrm]
   refine tke 1 (.agg (ints .i64 zs).toArray) rfl (yieldsIf_load_mid (by rfl) _ _ rfl c 0 rfl _ _ (fun w h => h.2) HU.out rfl HI2.out) hHeld ?_
   try simp only [Act.put, nrm]
   refine tke 3 (.agg (ints .i64 xs).toArray) rfl (yieldsIf_load_mid (by rfl) _ _ rfl A 0 rfl _ _ (fun w h => h.1) HU.out rfl HI1.out) hHeld ?_
   try simp only [Act.put, nrm]
   refine rdy 2 rfl fun K hK => ?_
   go_simp
   refine (rmul_any _ _ _ _ _ HZE.out HZE.out).mono ?_
   rintro e m1 ⟨r1, rfl, e1, b1⟩
   have B1 := B0.trans (b1.mono B0.size)
   refine hK.out _ _ ⟨zbe HA1.out B1, zbe HC.out B1⟩ (fun hHeld => ?_)
   clear hK K hHeld
   try simp only [Act.put, nrm]
   refine rdy 4 rfl fun K hK => ?_
   go_simp
   refine (rsame_any _ _ _ _ _ e1 HUE.out).mono ?_
   rintro e m2 ⟨he, b2⟩
   rw [decide_eq_true hsq] at he
   subst he
   have B2 := B1.trans (b2.mono B1.size)
   refine hK.out _ _ ⟨zbe HA1.out B2, zbe HC.out B2⟩ (fun hHeld => ?_)
   clear hK K hHeld
   try simp only [Act.put, nrm]
   refine dne ?_
   have HC := jh (zaa HC.out B2)
   have HA1 := jh (zaa HA1.out B2)
   have HA2 := jh (zaa HA2.out B2)
   have HEW := jh (HEW.out.trans B2)
   clear b1 b2 B0 B1 B2 e1
   have HSQ := jh hsq
   clear hsq
   go_wp2_with (first | (refine zae rfl _ _ rfl c rfl _ _ _ _ HC.out Tryz.underlying68 HI2.out ?_) | (refine zab rfl _ _ _ rfl (A + 1) _ rfl rfl _ _ HA2.out (by rw [zac, zac, HLZ.out]; rfl) HI2.out (zao _ _) ?_; intro w5 hb5 hg5))
   exact bodyPost_ret (zar (p := 2) (u := 3) (by rfl) _ (A + 1) _ _ _ (by rfl) hb5 Tryz.underlying68 rfl HI2.out) rfl ⟨⟨_, by rw [rootB_true2 (HY1.out HSQ.out).symm HSQ.out]; rfl, by rw [HY1.out HSQ.out]; exact HZE.out⟩, zad HEW.out hg5 (by omega)⟩
  ·skip
   go_wp2_with fail
   have B0 : Below wc.heap.size wc wc.drew := (Below.refl _ _).drew
   refine wp_region_held_drew (S := fun w' => w'.rangeAt A 0 (ints .i64 xs) ∧ w'.rangeAt c 0 (ints .i64 zs)) (by kernel_rfl) ⟨zbe HA1.out B0, zbe HC.out B0⟩ (fun hHeld => ?_)
   refine tke 0 (.agg (ints .i64 zs).toArray) rfl (yieldsIf_load_mid (by rfl) _ _ rfl c 0 rfl _ _ (fun w h => h.2) HU.out rfl HI2.out) hHeld ?_
   try simp only [Act.put, nrm]
   refine tke 1 (.agg (ints .i64 zs).toArray) rfl (yieldsIf_load_mid (by rfl) _ _ rfl c 0 rfl _ _ (fun w h => h.2) HU.out rfl HI2.out) hHeld ?_
   try simp only [Act.put, nrm]
   refine tke 3 (.agg (ints .i64 xs).toArray) rfl (yieldsIf_load_mid (by rfl) _ _ rfl A 0 rfl _ _ (fun w h => h.1) HU.out rfl HI1.out) hHeld ?_
   try simp only [Act.put, nrm]
   refine rdy 2 rfl fun K hK => ?_
   go_simp
   refine (rmul_any _ _ _ _ _ HZE.out HZE.out).mono ?_
   rintro e m1 ⟨r1, rfl, e1, b1⟩
   have B1 := B0.trans (b1.mono B0.size)
   refine hK.out _ _ ⟨zbe HA1.out B1, zbe HC.out B1⟩ (fun hHeld => ?_)
   clear hK K hHeld
   try simp only [Act.put, nrm]
   refine rdy 4 rfl fun K hK => ?_
   go_simp
   refine (rsame_any _ _ _ _ _ e1 HUE.out).mono ?_
   rintro e m2 ⟨he, b2⟩
   rw [decide_eq_false hsq] at he
   subst he
   have B2 := B1.trans (b2.mono B1.size)
   refine hK.out _ _ ⟨zbe HA1.out B2, zbe HC.out B2⟩ (fun hHeld => ?_)
   clear hK K hHeld
   try simp only [Act.put, nrm]
   refine dne ?_
   have HC := jh (zaa HC.out B2)
   have HA1 := jh (zaa HA1.out B2)
   have HA2 := jh (zaa HA2.out B2)
   have HEW := jh (HEW.out.trans B2)
   clear b1 b2 B0 B1 B2 e1
   have HYR := jh (HY2.out hsq)
   clear hsq
   have HGC : Hid (m2.rangeAt 6 0 (ints .i64 RTL)) := jh (HGW.out.ext HEW.out)
   go_wp2_with (first | (refine zae rfl _ _ rfl c rfl _ _ _ _ HC.out Tryz.underlying68 HI2.out ?_) | (refine wpList_load_mid rfl _ _ rfl 6 0 rfl (ints .i64 RTL) _ HGC.out Tryz.underlying68 rfl HIR.out ?_))
   refine (rmul_any _ _ _ _ _ HZE.out rt_el).mono ?_
   rintro e m3 ⟨r3, rfl, e3, b3⟩
   rw [← HYR.out] at e3
   obtain ⟨ws, rfl, lw, bw, qw, vw⟩ := id e3
   have HWE := jh e3
   have HC := jh (zaa HC.out b3)
   have HA1 := jh (zaa HA1.out b3)
   have HA2 := jh (zaa HA2.out b3)
   have HEW := jh (HEW.out.trans b3)
   have HI3 : Hid ((Tryz.prog.info? 68).map (·.size) = some (ints .i64 ws).length) := jh (by rw [zac, lw]; exact Tryz.arr68)
   have HLW := jh lw
   clear b3 e3 lw bw vw
   go_wp2_with (refine zab rfl _ _ _ rfl c (ints .i64 ws) rfl rfl _ _ HC.out (by rw [zac, zac, HLZ.out, HLW.out]) HI3.out (zao _ _) ?_; intro w5 hb5 hg5)
   have HA1 := jh (HA1.out.grown hg5 (by simp; omega))
   have HA2 := jh (HA2.out.grown hg5 (by simp; omega))
   have HEW := jh (zad HEW.out hg5 (by omega))
   have HC := jh hb5
   clear hb5 hg5
   have B0 : Below w5.heap.size w5 w5.drew := (Below.refl _ _).drew
   refine wp_region_held_drew (S := fun w' => w'.rangeAt A 0 (ints .i64 xs) ∧ w'.rangeAt c 0 (ints .i64 ws)) (by kernel_rfl) ⟨zbe HA1.out B0, zbe HC.out B0⟩ (fun hHeld => ?_)
   refine tke 0 (.agg (ints .i64 ws).toArray) rfl (yieldsIf_load_mid (by rfl) _ _ rfl c 0 rfl _ _ (fun w h => h.2) HU.out rfl HI3.out) hHeld ?_
   try simp only [Act.put, nrm]
   refine tke 1 (.agg (ints .i64 ws).toArray) rfl (yieldsIf_load_mid (by rfl) _ _ rfl c 0 rfl _ _ (fun w h => h.2) HU.out rfl HI3.out) hHeld ?_
   try simp only [Act.put, nrm]
   refine tke 2 (.agg (ints .i64 ws).toArray) rfl (yieldsIf_load_mid (by rfl) _ _ rfl c 0 rfl _ _ (fun w h => h.2) HU.out rfl HI3.out) hHeld ?_
   try simp only [Act.put, nrm]
   refine tke 4 (.agg (ints .i64 xs).toArray) rfl (yieldsIf_load_mid (by rfl) _ _ rfl A 0 rfl _ _ (fun w h => h.1) HU.out rfl HI1.out) hHeld ?_
   try simp only [Act.put, nrm]
   refine rdy 3 rfl fun K hK => ?_
   go_simp
   refine (rmul_any _ _ _ _ _ HWE.out HWE.out).mono ?_
   rintro e m6 ⟨r6, rfl, e6, b6⟩
   have B6 := B0.trans (b6.mono B0.size)
   refine hK.out _ _ ⟨zbe HA1.out B6, zbe HC.out B6⟩ (fun hHeld => ?_)
   clear hK K hHeld
   try simp only [Act.put, nrm]
   refine rdy 5 rfl fun K hK => ?_
   go_simp
   refine (rsame_any _ _ _ _ _ e6 HUE.out).mono ?_
   rintro e m7 ⟨he, b7⟩
   rw [show decide (nb (rootR x * rootR x) = nb x) = rootB x from rfl] at he
   subst he
   have B7 := B6.trans (b7.mono B6.size)
   refine hK.out _ _ ⟨zbe HA1.out B7, zbe HC.out B7⟩ (fun hHeld => ?_)
   clear hK K hHeld
   try simp only [Act.put, nrm]
   refine rdy 6 rfl fun K hK => ?_
   rw [if_pos (by rfl)]
   refine zak _ _ _ rfl (A + 1) (ints .i64 ws) rfl rfl _ _ (bl_blk HA2.out B7) (by rw [zac, zac, HLW.out]; rfl) HI3.out (zao _ _) ?_
   intro w8 hb8 hg8
   refine hK.out _ _ ⟨((bl_blk HA1.out B7).grown hg8 (by simp)).range, ((bl_blk HC.out B7).grown hg8 (by simp; omega)).range⟩ (fun hHeld => ?_)
   clear hK K hHeld
   try simp only [Act.put, nrm]
   refine rdy 7 rfl fun K hK => ?_
   go_simp
   refine hK.out _ _ ⟨((bl_blk HA1.out B7).grown hg8 (by simp)).range, ((bl_blk HC.out B7).grown hg8 (by simp; omega)).range⟩ (fun hHeld => ?_)
   clear hK K hHeld
   try simp only [Act.put, nrm]
   refine dne ?_
   go_wp2_with fail
   exact bodyPost_ret (zar (p := 2) (u := 3) (by rfl) _ (A + 1) _ _ _ (by rfl) hb8 Tryz.underlying68 rfl HI3.out) rfl ⟨⟨_, rfl, HWE.out⟩, zad (HEW.out.trans B7) hg8 (by omega)⟩
theorem gCurL : Tryz.prog.globalNamed "portcullis/portcullisref3.rootOfMinusOne" = some 6 := by kernel_rfl
theorem tCurL : (Tryz.prog.globals[6]?).map (·.type) = some 68 := by kernel_rfl
theorem dCurL : (Rows.laid_portcullis_portcullisref3_rootOfMinusOne : DataW Unit) = .agg (RTL.map fun z => .lit (.int .i64 z)) := rfl
theorem globL_of {W : World} {L : List (String × DataW Unit)} (hp : (L.all fun x => x.2.handleName?.isNone) = true) (h : laidMetH Tryz.prog L W) (hm : ("portcullis/portcullisref3.rootOfMinusOne", Rows.laid_portcullis_portcullisref3_rootOfMinusOne) ∈ L) : Glob W :=
 zcy hp h hm dCurL gCurL tCurL Tryz.underlying68 Tryz.underlying3 (by kernel_rfl) rfl
theorem certV_out {pub : List UInt8} {id : Int} {key sig : List UInt8} (h : smallB id = false) : certV pub id key sig = false := by
 unfold certV
 rw [h]
 rfl
theorem sgnK_length {id : Int} {key : List UInt8} (hk : key.length = 32) : (sgnK id key).length = 32 := by
 unfold sgnK
 split
 ·exact hk
 ·exact zdd
theorem sgnG_length (root : List UInt8) (id : Int) (key : List UInt8) : (sgnG root id key).length = 64 := by
 unfold sgnG
 split
 ·exact certG_length _ _ _
 ·exact zbi
theorem rad_eq (y : Fp) : (y * y - fp 1) * fi (dF * (y * y) + fp 1) = rad y := by
 unfold rad
 rw [fp_one]
theorem read_is {n : List UInt8} (h : n.length = 32) (hp : leN (yB n) < pN) {f : Fp} (hx : f * f = rad (fp ((leN (yB n) : Nat) : Int))) (h0 : ¬ (f = 0 ∧ bitN n = 1)) {x : Fp} (hxx : x = pickX f (bitN n)) :
  edMay n ∧ ∀ P, encB P = n → (⟨x, fp ((leN (yB n) : Nat) : Int), fp 1, x * fp ((leN (yB n) : Nat) : Int)⟩ : ES).is P := by
 have hR := read_enc h hp hx h0
 refine ⟨⟨_, hR⟩, fun P hP => ?_⟩
 have e : P = readP f (fp ((leN (yB n) : Nat) : Int)) (bitN n) hx := encB_inj (hP.trans hR.symm)
 rw [e, hxx, fp_one]
 exact Pt.es_is _
theorem rroot_f {u : Value} {a : Fp} (w : World) (hu : ElF u a) (hG : Glob w) : Calls Tryz.prog 79 #[u] w fun e w' => ∃ r f, e = .returned (.tuple #[r, .bool (rtB a)]) ∧ ElF r f ∧ (rtB a = true → f * f = a) ∧ Below w.heap.size w w' := by
 obtain ⟨x, hx, rfl⟩ := hu
 refine (rroot_any u x w hx hG).mono ?_
 rintro e w' ⟨⟨r, rfl, hr⟩, hb⟩
 refine ⟨r, fp (rootR x), by rw [rt_is], ⟨_, hr, rfl⟩, fun h => ?_, hb⟩
 rw [← fp_mul, fp_eq]
 exact rtc_sq (by rw [rt_is]; exact h)
theorem rCanon_num (l : List UInt8) (w : World) (hl : l.length = 32) :
  Calls Tryz.prog 77 #[.agg (l.map bval).toArray] w fun e w' => e = .returned (numP (leN l)) ∧ Below w.heap.size w w' := by
 have HL := jh hl
 have HBX := jh (boxes2 w (l.map bval) (ints .u8 (List.replicate 32 0)) 23 23)
 have HI1 : Hid ((Tryz.prog.info? 23).map (·.size) = some (l.map bval).length) := jh (by rw [List.length_map, hl]; exact Tryz.arr23)
 have HI3 : Hid ((Tryz.prog.info? 23).map (·.size) = some ((bytesN 32 ((leN l : Int) % pP).toNat).map bval).length) := jh (by rw [List.length_map, zbf]; exact Tryz.arr23)
 have HIN := jh (rin_el l ((w.alloc (.cells (l.map bval).toArray 23)).alloc (.cells (ints .u8 (List.replicate 32 0)).toArray 23)) hl)
 clear hl
 go_enter Tryz.func77, Tryz.ntmps77
 go_wp2_with (refine zae rfl _ _ rfl w.heap.size rfl _ _ _ _ HBX.out.1 Tryz.underlying23 HI1.out ?_)
 change Calls _ _ _ ((w.alloc (.cells (l.map bval).toArray 23)).alloc (.cells (ints .u8 (List.replicate 32 0)).toArray 23)) _
 generalize (w.alloc (.cells (l.map bval).toArray 23)).alloc (.cells (ints .u8 (List.replicate 32 0)).toArray 23) = w0 at *
 obtain ⟨h1, h2, h3⟩ := HBX.out
 obtain ⟨A, hA⟩ : ∃ A, A = w.heap.size := ⟨_, rfl⟩
 rw [← hA] at h1 h2 ⊢
 have hA2 : w.heap.size ≤ A := by omega
 have H2 := jh h2
 have H3 := jh h3
 clear h1 h2 h3 HBX hA
 refine HIN.out.mono ?_
 rintro e w1 ⟨r1, rfl, e1, b1⟩
 have HO := jh (rout_any r1 _ w1 e1)
 have HB1 := jh b1
 clear b1 e1
 go_wp2_with fail
 refine HO.out.mono ?_
 rintro e w2 ⟨rfl, b2⟩
 have HB2 := jh (HB1.out.trans (b2.mono HB1.out.size))
 have H22 := jh (bl_blk H2.out HB2.out)
 have hl5 : Hid (((bytesN 32 ((leN l : Int) % pP).toNat).map bval).length = (ints .u8 (List.replicate 32 0)).length) := jh (by rw [List.length_map, zbf]; rfl)
 clear b2
 go_wp2_with (refine zab rfl _ _ _ rfl (A + 1) _ rfl rfl _ _ H22.out hl5.out HI3.out (zaj _) ?_; intro w5 hb5 hg5)
 exact bodyPost_ret (v := numP (leN l)) (zbn (by rfl) _ (A + 1) _ _ _ _ (by rfl) hb5 Tryz.underlying23 HI3.out) rfl ⟨rfl, (H3.out.trans (HB2.out.mono H3.out.size)).grown hg5 (Nat.le_trans H3.out.size HB2.out.size) (fun r hr => by cases hr; omega)⟩
end Go.Proofs.YthafgicndklgfaaGreatDoor
