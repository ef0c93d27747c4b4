/- Texts that belong together, one behind the other. -/
import Derived.Test.YthafgicndklgfaaGreatDoorQz12
import Derived.Test.YthafgicndklgfaaGreatDoorQz14
import Derived.Test.YthafgicndklgfaaGreatDoorQz16
import Derived.Test.YthafgicndklgfaaGreatDoorQz19
import Derived.Test.YthafgicndklgfaaGreatDoorQz27
namespace Go.Proofs.YthafgicndklgfaaGreatDoor
set_option linter.unusedVariables false
set_option maxRecDepth 100000
set_option maxHeartbeats 32000000
set_option linter.unusedSimpArgs false
open Go.RowKit
theorem rmay_f (n : List UInt8) (w : World) (hn : n.length = 32) (hD : GlobD w) (hG : Glob w) : Calls Tryz.prog 25 #[.agg (n.map bval).toArray] w fun e w' => e = .returned (.bool (mayB n)) ∧ Below w.heap.size w w' := by
 have HNL := jh hn
 have HGD := jh hD
 have HGR := jh hG
 have HB := jh (zfu w (n.map bval) 23)
 clear hn hD hG
 go_enter Tryz.func25, Tryz.ntmps25
 go_upto_region 1 with (fail)
 obtain ⟨H1, HE⟩ := HB.out
 change Code.wp _ _ _ _ (w.alloc (.cells (n.map bval).toArray 23))
 generalize w.alloc (.cells (n.map bval).toArray 23) = wa at *
 obtain ⟨A, hA⟩ : ∃ A, A = w.heap.size := ⟨_, rfl⟩
 rw [← hA] at H1 ⊢
 have HN := jh H1
 have HE : Hid (Ext w wa) := jh HE
 clear hA HB H1
 go_wp2_with (refine zae rfl _ _ rfl A rfl _ _ _ _ HN.out Tryz.underlying23 (zaf HNL.out) ?_)
 refine (rread_f n wa HNL.out (HGD.out.ext HE.out) (HGR.out.ext HE.out)).mono ?_
 rintro e wb ⟨cs, rfl, hl, ho, hP, hb⟩
 have HE := jh (HE.out.trans hb)
 have HCL := jh hl
 have HCO := jh ho
 obtain ⟨mb, hmb⟩ : ∃ z, z = mayB n := ⟨_, rfl⟩
 rw [← hmb]
 have HMB := jh hmb
 clear hl ho hP hb HN hmb
 have HZ := jh (Blk.made wb (ints .i64 (List.replicate 64 0)) 70)
 have HEA := jh (Ext.alloc wb (.cells (ints .i64 (List.replicate 64 0)).toArray 70))
 have HL : Hid (cs.length = (ints .i64 (List.replicate 64 0)).length) := jh (by rw [HCL.out, zac]; rfl)
 have HI : Hid ((Tryz.prog.info? 70).map (·.size) = some cs.length) := jh (by rw [HCL.out]; kernel_rfl)
 go_upto_region 2 with (refine zab rfl _ _ _ rfl wb.heap.size cs rfl rfl _ _ HZ.out HL.out HI.out HCO.out ?_; intro wc hb2 hg2)
 have HX := jh (zad HEA.out hg2 (Nat.le_refl _))
 have HE := jh (HE.out.trans HX.out)
 clear hb2 hg2 HZ HEA HX
 go_wp2_with fail
 go_ret
 exact ⟨by rw [HMB.out]; rfl, HE.out⟩
def GN (w : World) : Prop := GP w ∧ Glob w
theorem GN.ext {w w' : World} (h : GN w) (hb : Ext w w') : GN w' := ⟨h.1.ext hb, h.2.ext hb⟩
section
section
variable {P : Program} {ops : Array Oper} {Q : Exit → Act → World → Prop}
theorem wpList_build_w {rest : List Oper} {o : Oper} {a : Act} {w : World} (hw : Region.wanted o (yielded ops a.tmps) = true) (ty : TypeId) (parts : Array (Nat × Operand)) (ho : o.op = .build ty parts)
  (vs : Array (Nat × Value)) (hp : parts.map (fun (i, x) => (i, a.eval x)) = vs) (v : Value) (hr : (Instr.build ty vs).run P w = .ok v w) (next : wpList P ops Q rest (a.put o.dst v) w) : wpList P ops Q (o :: rest) a w := by
 refine wpList_step fun K hK => ?_
 rw [if_pos hw]
 subst hp
 unfold Oper.wp execOp
 simp only [ho, Sem.run_bind, hr, Result.andThen_ok, Sem.run_pure]
 exact hK _ _ next
end
end
theorem build_cert1 (id : Int) (w : World) : (Instr.build 28 #[(0, .int .i64 id)]).run Tryz.prog w = .ok (.agg (certC id z32 z64).toArray) w := by
 refine run_build w _ _ _ ?_
 have e := fill_layV (place := fun i => (#[(0, 1), (1, 32), (33, 64)] : Array (Nat × Nat))[i]?) (i := 0) (off := 0) (n := 1) (pre := []) (mid := [.int .i64 0]) (post := z32.map bval ++ z64.map bval) (new := [.int .i64 id]) (rest := []) (v := .int .i64 id) rfl rfl rfl rfl rfl
 rw [Instr.fill] at e
 refine Eq.trans ?_ e
 kernel_rfl
theorem rd_nil : rdE [] = 4 ∧ rdI [] = 0 ∧ rdG [] = z64 := rd_no (readS_long (by decide))
theorem rmay_g (n : List UInt8) (r : Bool) (w : World) (hn : n.length = 32) (hr : mayB n = r) (hG : GN w) : Calls Tryz.prog 25 #[.agg (n.map bval).toArray] w fun e w' => e = .returned (.bool r) ∧ Below w.heap.size w w' := by
 subst hr
 exact rmay_f n w hn hG.1.2.1 hG.2
theorem certNone_any {MG : World → Prop} (SC : CrtSaid MG) (n : Int) (w : World) (hG : MG w) (hV : GN w) :
  Calls Tryz.prog 8 #[.int .i64 n] w fun e w' => e = .returned (.bool true) ∧ Below w.heap.size w w' := by
 have HG := jh hG
 have HV := jh hV
 have HSC := jh SC
 have HL1 : Hid ((smL 1).length = 32) := jh (smL_length _)
 have HL2 : Hid ((smL 2).length = 32) := jh (smL_length _)
 have HP1 := jh (fun w hG => rpub_g (smL 1) w HL1.out hG)
 have HK1 : Hid ((edPub (smL 1)).length = 32) := jh (edPub_length _)
 have hk := HK1.out
 have ha := sgn_arg (id := -1) (key := edPub (smL 1)) (by decide) (smL 1)
 have hb := sgn_arg (id := 2147483648) (key := edPub (smL 1)) (by decide) (smL 1)
 have HSA := jh (fun w hG => SC.sign (smL 1) (edPub (smL 1)) (-1) w HL1.out hk ⟨by decide, by decide⟩ hG)
 have HSB := jh (fun w hG => SC.sign (smL 1) (edPub (smL 1)) 2147483648 w HL1.out hk ⟨by decide, by decide⟩ hG)
 rw [ha.1, ha.2.1, ha.2.2.1, ha.2.2.2] at HSA
 rw [hb.1, hb.2.1, hb.2.2.1, hb.2.2.2] at HSB
 have HSD := jh (fun w hG => SC.sign (smL 1) (smL 2) 5 w HL1.out HL2.out ⟨by decide, by decide⟩ hG)
 have HST := jh (fun w hG => SC.stop (smL 1) (-1) w HL1.out ⟨by decide, by decide⟩ hG)
 have hs : stpE (-1) = 1 ∧ stpI (-1) = 0 ∧ stpG (smL 1) (-1) = z64 := ⟨by decide, by decide, rfl⟩
 rw [hs.1, hs.2.1, hs.2.2] at HST
 have HPK := jh (fun w hG => SC.pack z64 2147483648 w zbi ⟨by decide, by decide⟩ hG)
 have hp : stpE 2147483648 = 1 := by decide
 rw [hp] at HPK
 have HRD := jh (fun w hG => SC.read [] (.slice none 0 0) w (Row1.nil w) (by decide) hG)
 rw [rd_nil.1, rd_nil.2.1, rd_nil.2.2] at HRD
 have HCK := jh (fun w hG => SC.check (edPub (smL 1)) z32 z64 (-1) w hk zdd zbi ⟨by decide, by decide⟩ hG)
 have hc : certV (edPub (smL 1)) (-1) z32 z64 = false := certV_out (by decide)
 rw [hc] at HCK
 have HMB := jh (fun r w hr hG => rmay_g (smL 2) r w HL2.out hr hG)
 have HME : Hid (∀ r, mayB (smL 2) = r → sgnE 5 (smL 2) = (if r = true then 0 else 21)) := jh (fun r hr => by
  subst hr
  have h5 : smallB 5 = true := by decide
  unfold sgnE
  rw [if_pos h5])
 have HJL : Hid ((sgnK 5 (smL 2)).length = 32) := jh (sgnK_length HL2.out)
 have HGL : Hid ((sgnG (smL 1) 5 (smL 2)).length = 64) := jh (sgnG_length _ _ _)
 generalize sgnG (smL 1) 5 (smL 2) = g at *
 generalize sgnK 5 (smL 2) = J at *
 generalize sgnI 5 (smL 2) = I at *
 generalize sgnE 5 (smL 2) = E at *
 obtain ⟨mb, hmb⟩ : ∃ mb, mb = mayB (smL 2) := ⟨_, rfl⟩
 have HMB := jh (fun w hG => HMB.out mb w hmb.symm hG)
 have HME := jh (HME.out mb hmb.symm)
 generalize edPub (smL 1) = k at *
 clear hG hV SC ha hb hs hp hc hmb
 have HIK := jh (zaf hk)
 have HLK : Hid ((k.map bval).length = (ints .u8 (List.replicate 32 0)).length) := jh (by rw [List.length_map, zac, hk]; rfl)
 have HB1 := jh (fun w => crt_sm 1 1 rfl w)
 have HB2 := jh (fun w => crt_sm 2 2 rfl w)
 have HLC : Hid ((certC I J g).length = (certC 0 z32 z64).length) := jh (by rw [zce HJL.out HGL.out, zce zdd zbi])
 have HIC := jh (zdx (id := I) HJL.out HGL.out)
 have HL0 : Hid ((certC 0 z32 z64).length = (certC 0 z32 z64).length) := jh rfl
 have HI0 := jh (zdx (id := 0) zdd zbi)
 have HM0 : Hid ((stopC 0 z64).length = (stopC 0 z64).length) := jh rfl
 have HJ0 := jh (zcj (id := 0) zbi)
 clear hk
 go_enter Tryz.func8, Tryz.ntmps8
 go_wp2_with fail
 refine (alive_any16 HSC.out w HG.out HV.out.1).mono ?_
 rintro e w1 ⟨rfl, hb⟩
 have HE := jh (show Ext w w1 from hb)
 clear hb
 go_wp2_with (refine zaw rfl 23 #[(0, .const (.int .u8 1))] rfl #[(0, .int .u8 1)] (by simp [Act.eval]) (.agg ((smL 1).map bval).toArray) (HB1.out _) ?_)
 refine (HP1.out w1 (HV.out.1.ext HE.out)).mono ?_
 rintro e w2 ⟨rfl, hb⟩
 have HE := jh (HE.out.trans hb)
 clear hb HP1
 have HZ := jh (Blk.made w2 ((ints .u8 (List.replicate 32 0))) 23)
 have HEA := jh (Ext.alloc w2 (.cells ((ints .u8 (List.replicate 32 0))).toArray 23))
 go_upto_region 3 with (refine zab rfl _ _ _ rfl w2.heap.size (k.map bval) rfl rfl _ _ HZ.out HLK.out HIK.out (zaj _) ?_; intro w3 hb2 hg2)
 have HX := jh (zad HEA.out hg2 (Nat.le_refl _))
 have HE := jh (HE.out.trans HX.out)
 have HKB := jh hb2
 obtain ⟨D, hD⟩ : ∃ D, D = w2.heap.size := ⟨_, rfl⟩
 rw [← hD] at HKB ⊢
 clear hb2 hg2 HZ HEA HX hD
 go_wp2_with (first | (refine zaw rfl 23 #[(0, .const (.int .u8 1))] rfl #[(0, .int .u8 1)] (by simp [Act.eval]) (.agg ((smL 1).map bval).toArray) (HB1.out _) ?_) | (refine zcf (by rfl) _ _ rfl D rfl _ _ _ _ HKB.out Tryz.underlying23 HIK.out ?_))
 refine (HSA.out w3 (HSC.out.ext HG.out HE.out)).mono ?_
 rintro e w4 ⟨rfl, hb⟩
 have HKB := jh (zaa HKB.out hb)
 have HE := jh (HE.out.trans hb)
 clear hb
 have HZ := jh (Blk.made w4 (certC 0 z32 z64) 28)
 have HEA := jh (Ext.alloc w4 (.cells (certC 0 z32 z64).toArray 28))
 go_upto_region 4 with (refine zab rfl _ _ _ rfl w4.heap.size (certC 0 z32 z64) rfl rfl _ _ HZ.out rfl HI0.out (zev _ _ _) ?_; intro w5 hb2 hg2)
 have HX := jh (zad HEA.out hg2 (Nat.le_refl _))
 have HKB := jh (zaa HKB.out HX.out)
 have HE := jh (HE.out.trans HX.out)
 have HX1 := jh hb2
 obtain ⟨C1, hD⟩ : ∃ D, D = w4.heap.size := ⟨_, rfl⟩
 rw [← hD] at HX1 ⊢
 clear hb2 hg2 HZ HEA HX hD
 clear HX1 HSA
 go_wp2_with (first | (refine zaw rfl 23 #[(0, .const (.int .u8 1))] rfl #[(0, .int .u8 1)] (by simp [Act.eval]) (.agg ((smL 1).map bval).toArray) (HB1.out _) ?_) | (refine zcf (by rfl) _ _ rfl D rfl _ _ _ _ HKB.out Tryz.underlying23 HIK.out ?_))
 refine (HSB.out w5 (HSC.out.ext HG.out HE.out)).mono ?_
 rintro e w6 ⟨rfl, hb⟩
 have HKB := jh (zaa HKB.out hb)
 have HE := jh (HE.out.trans hb)
 clear hb
 have HZ := jh (Blk.made w6 (certC 0 z32 z64) 28)
 have HEA := jh (Ext.alloc w6 (.cells (certC 0 z32 z64).toArray 28))
 go_upto_region 5 with (refine zab rfl _ _ _ rfl w6.heap.size (certC 0 z32 z64) rfl rfl _ _ HZ.out rfl HI0.out (zev _ _ _) ?_; intro w7 hb2 hg2)
 have HX := jh (zad HEA.out hg2 (Nat.le_refl _))
 have HKB := jh (zaa HKB.out HX.out)
 have HE := jh (HE.out.trans HX.out)
 have HX1 := jh hb2
 obtain ⟨C2, hD⟩ : ∃ D, D = w6.heap.size := ⟨_, rfl⟩
 rw [← hD] at HX1 ⊢
 clear hb2 hg2 HZ HEA HX hD
 clear HX1 HSB
 go_wp2_with (first | (refine zaw rfl 23 #[(0, .const (.int .u8 1))] rfl #[(0, .int .u8 1)] (by simp [Act.eval]) (.agg ((smL 1).map bval).toArray) (HB1.out _) ?_) | (refine zaw rfl 23 #[(0, .const (.int .u8 2))] rfl #[(0, .int .u8 2)] (by simp [Act.eval]) (.agg ((smL 2).map bval).toArray) (HB2.out _) ?_))
 refine (HSD.out w7 (HSC.out.ext HG.out HE.out)).mono ?_
 rintro e w8 ⟨rfl, hb⟩
 have HKB := jh (zaa HKB.out hb)
 have HE := jh (HE.out.trans hb)
 clear hb
 have HZ := jh (Blk.made w8 (certC 0 z32 z64) 28)
 have HEA := jh (Ext.alloc w8 (.cells (certC 0 z32 z64).toArray 28))
 go_upto_region 6 with (refine zab rfl _ _ _ rfl w8.heap.size (certC I J g) rfl rfl _ _ HZ.out HLC.out HIC.out (zev _ _ _) ?_; intro w9 hb2 hg2)
 have HX := jh (zad HEA.out hg2 (Nat.le_refl _))
 have HKB := jh (zaa HKB.out HX.out)
 have HE := jh (HE.out.trans HX.out)
 have HX1 := jh hb2
 obtain ⟨C3, hD⟩ : ∃ D, D = w8.heap.size := ⟨_, rfl⟩
 rw [← hD] at HX1 ⊢
 clear hb2 hg2 HZ HEA HX hD
 clear HX1 HSD HLC HIC HJL HGL
 go_wp2_with (first | (refine zaw rfl 23 #[(0, .const (.int .u8 1))] rfl #[(0, .int .u8 1)] (by simp [Act.eval]) (.agg ((smL 1).map bval).toArray) (HB1.out _) ?_))
 refine (HST.out w9 (HSC.out.ext HG.out HE.out)).mono ?_
 rintro e w10 ⟨rfl, hb⟩
 have HKB := jh (zaa HKB.out hb)
 have HE := jh (HE.out.trans hb)
 clear hb
 have HZ := jh (Blk.made w10 (stopC 0 z64) 39)
 have HEA := jh (Ext.alloc w10 (.cells (stopC 0 z64).toArray 39))
 go_upto_region 7 with (refine zab rfl _ _ _ rfl w10.heap.size (stopC 0 z64) rfl rfl _ _ HZ.out rfl HJ0.out (zcd _ _) ?_; intro w11 hb2 hg2)
 have HX := jh (zad HEA.out hg2 (Nat.le_refl _))
 have HKB := jh (zaa HKB.out HX.out)
 have HE := jh (HE.out.trans HX.out)
 have HX1 := jh hb2
 obtain ⟨C4, hD⟩ : ∃ D, D = w10.heap.size := ⟨_, rfl⟩
 rw [← hD] at HX1 ⊢
 clear hb2 hg2 HZ HEA HX hD
 clear HX1 HST
 go_wp2_with (refine wpList_build_w (by rfl) 39 #[(0, _)] rfl #[(0, .int .i64 2147483648)] (by simp [Act.eval]) (.agg (stopC 2147483648 z64).toArray) (build_stop1 _ _) ?_)
 refine (HPK.out w11 (HSC.out.ext HG.out HE.out)).mono ?_
 rintro e w12 ⟨x, rfl, ho, hb⟩
 have HKB := jh (zaa HKB.out hb)
 have HE := jh (HE.out.trans hb)
 clear hb ho HPK
 go_wp2_with fail
 refine (HRD.out w12 (HSC.out.ext HG.out HE.out)).mono ?_
 rintro e w13 ⟨rfl, hb⟩
 have HKB := jh (zaa HKB.out hb)
 have HE := jh (HE.out.trans hb)
 clear hb HRD
 have HZ := jh (Blk.made w13 (stopC 0 z64) 39)
 have HEA := jh (Ext.alloc w13 (.cells (stopC 0 z64).toArray 39))
 go_upto_region 9 with (refine zab rfl _ _ _ rfl w13.heap.size (stopC 0 z64) rfl rfl _ _ HZ.out rfl HJ0.out (zcd _ _) ?_; intro w14 hb2 hg2)
 have HX := jh (zad HEA.out hg2 (Nat.le_refl _))
 have HKB := jh (zaa HKB.out HX.out)
 have HE := jh (HE.out.trans HX.out)
 have HX1 := jh hb2
 obtain ⟨C5, hD⟩ : ∃ D, D = w13.heap.size := ⟨_, rfl⟩
 rw [← hD] at HX1 ⊢
 clear hb2 hg2 HZ HEA HX hD
 clear HX1
 go_wp2_with (first | (refine zaw rfl 23 #[(0, .const (.int .u8 1))] rfl #[(0, .int .u8 1)] (by simp [Act.eval]) (.agg ((smL 1).map bval).toArray) (HB1.out _) ?_) | (refine zaw rfl 23 #[(0, .const (.int .u8 2))] rfl #[(0, .int .u8 2)] (by simp [Act.eval]) (.agg ((smL 2).map bval).toArray) (HB2.out _) ?_))
 refine (HMB.out w14 (HV.out.ext HE.out)).mono ?_
 rintro e w15 ⟨rfl, hb⟩
 have HKB := jh (zaa HKB.out hb)
 have HE := jh (HE.out.trans hb)
 clear hb HMB
 have kq := fun (m : Int) => zbq m w15
 cases mb with
 | true =>
  have hE : E = 0 := HME.out
  subst hE
  clear HME kq
  go_wp2_with fail
  refine (zbq 1 w15).mono ?_
  rintro e w8 ⟨rfl, rfl⟩
  go_wp2_with fail
  refine (zbq 1 w15).mono ?_
  rintro e w8 ⟨rfl, rfl⟩
  go_wp2_with fail
  refine (zbq 0 w15).mono ?_
  rintro e w8 ⟨rfl, rfl⟩
  go_wp2_with fail
  refine (zbq 1 w15).mono ?_
  rintro e w8 ⟨rfl, rfl⟩
  go_wp2_with fail
  refine (zbq 1 w15).mono ?_
  rintro e w8 ⟨rfl, rfl⟩
  go_wp2_with fail
  refine (zbq 4 w15).mono ?_
  rintro e w8 ⟨rfl, rfl⟩
  by_cases cn : n < 0
  ·go_wp2_with fail
   go_ret
   exact ⟨rfl, HE.out⟩
  ·have cn2 : decide (n < 0) = false := decide_eq_false cn
   go_wp2_with (first | (refine zcf (by rfl) _ _ rfl D rfl _ _ _ _ HKB.out Tryz.underlying23 HIK.out ?_) | (refine wpList_build_w (by rfl) 28 #[(0, _)] rfl #[(0, .int .i64 (-1))] (by simp [Act.eval]) (.agg (certC (-1) z32 z64).toArray) (build_cert1 _ _) ?_))
   refine (HCK.out w15 (HSC.out.ext HG.out HE.out)).mono ?_
   rintro e w16 ⟨rfl, hb⟩
   have HE := jh (HE.out.trans hb)
   go_wp2_with fail
   go_ret
   exact ⟨rfl, HE.out⟩
 | false =>
  have hE : E = 21 := HME.out
  subst hE
  clear HME kq
  go_wp2_with fail
  refine (zbq 1 w15).mono ?_
  rintro e w8 ⟨rfl, rfl⟩
  go_wp2_with fail
  refine (zbq 1 w15).mono ?_
  rintro e w8 ⟨rfl, rfl⟩
  go_wp2_with fail
  refine (zbq 21 w15).mono ?_
  rintro e w8 ⟨rfl, rfl⟩
  go_wp2_with fail
  refine (zbq 1 w15).mono ?_
  rintro e w8 ⟨rfl, rfl⟩
  go_wp2_with fail
  refine (zbq 1 w15).mono ?_
  rintro e w8 ⟨rfl, rfl⟩
  go_wp2_with fail
  refine (zbq 4 w15).mono ?_
  rintro e w8 ⟨rfl, rfl⟩
  by_cases cn : n < 0
  ·go_wp2_with fail
   go_ret
   exact ⟨rfl, HE.out⟩
  ·have cn2 : decide (n < 0) = false := decide_eq_false cn
   go_wp2_with (first | (refine zcf (by rfl) _ _ rfl D rfl _ _ _ _ HKB.out Tryz.underlying23 HIK.out ?_) | (refine wpList_build_w (by rfl) 28 #[(0, _)] rfl #[(0, .int .i64 (-1))] (by simp [Act.eval]) (.agg (certC (-1) z32 z64).toArray) (build_cert1 _ _) ?_))
   refine (HCK.out w15 (HSC.out.ext HG.out HE.out)).mono ?_
   rintro e w16 ⟨rfl, hb⟩
   have HE := jh (HE.out.trans hb)
   go_wp2_with fail
   go_ret
   exact ⟨rfl, HE.out⟩
section
open Go.ChangeShapes Go.WideShapes Go.ChangeAt Go.WideMaps Go.WideElems Go.RowKit
theorem certNone_opened {H : Type} {MG : World → Prop} (SC : CrtSaid MG) (enc : TypeId × Value → H) : LawWalkG (fun W => MG W ∧ GN W) enc Tryz.prog 8 Tryz.f8.params.toList := by
 intro W base args ds ps hval hA hlt hfz hG
 rw [Tryz.params8] at hA hval
 obtain ⟨v0, d0, rfl, rfl, h0⟩ := trodAll_one hA
 obtain ⟨x0, rfl, _, _, hw0⟩ := open_int Tryz.underlying3 (hval 0 3 v0 rfl rfl) h0
 exact certNone_any SC x0 W hG.1 hG.2
end
end Go.Proofs.YthafgicndklgfaaGreatDoor
