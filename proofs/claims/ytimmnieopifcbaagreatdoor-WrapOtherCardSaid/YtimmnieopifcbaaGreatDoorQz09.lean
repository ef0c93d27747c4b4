/- Texts that belong together, one behind the other. -/
import Derived.Test.YtimmnieopifcbaaGreatDoorQz08
namespace Go.Proofs.YtimmnieopifcbaaGreatDoor
set_option linter.unusedVariables false
set_option maxRecDepth 100000
set_option maxHeartbeats 32000000
set_option linter.unusedSimpArgs false
open Go.RowKit
theorem rladder_any (kb ub : List UInt8) (w : World) (hk : kb.length = 32) (hu : ub.length = 32) : Calls Tryz.prog 30 #[.agg (kb.map bval).toArray, .agg (ub.map bval).toArray] w fun e w' => e = .returned (.agg ((ladB kb ub).map bval).toArray) ∧ Below w.heap.size w w' := by
 have HB := jh (boxes3 w (kb.map bval) (ub.map bval) (ints .u8 (List.replicate 32 0)) 23 23 23)
 have HKL := jh hk
 have HUL := jh hu
 clear hk hu
 go_enter Tryz.func30, Tryz.ntmps30
 go_upto_region 1 with (fail)
 obtain ⟨H1, H2, H3, HE⟩ := HB.out
 change Code.wp _ _ _ _ (((w.alloc (.cells (kb.map bval).toArray 23)).alloc (.cells (ub.map bval).toArray 23)).alloc (.cells (ints .u8 (List.replicate 32 0)).toArray 23))
 generalize ((w.alloc (.cells (kb.map bval).toArray 23)).alloc (.cells (ub.map bval).toArray 23)).alloc (.cells (ints .u8 (List.replicate 32 0)).toArray 23) = wa at *
 obtain ⟨A, hA⟩ : ∃ A, A = w.heap.size := ⟨_, rfl⟩
 have HO : Hid (w.heap.size ≤ A) := jh (by omega)
 rw [← hA] at H1 H2 H3 ⊢
 have H1 := jh H1
 have H2 := jh H2
 have HR := jh H3
 have HE : Hid (Ext w wa) := jh HE
 clear hA HB
 obtain ⟨cl, hcl⟩ : ∃ cl, cl = clampB kb := ⟨_, rfl⟩
 obtain ⟨mu, hmu⟩ : ∃ mu, mu = maskB ub := ⟨_, rfl⟩
 have HCL : Hid (cl.length = 32) := jh (by rw [hcl]; exact zdf HKL.out)
 have HML : Hid (mu.length = 32) := jh (by rw [hmu]; exact maskB_length HUL.out)
 have HIK := jh (zaf HKL.out)
 have HIC : Hid ((Tryz.prog.info? 23).map (·.size) = some (cl.map bval).length) := jh (zaf HCL.out)
 have HIM : Hid ((Tryz.prog.info? 23).map (·.size) = some (mu.map bval).length) := jh (zaf HML.out)
 have HLK : Hid ((cl.map bval).length = (kb.map bval).length) := jh (by rw [List.length_map, List.length_map, HCL.out, HKL.out])
 have HX1 : Hid ((ub.map bval).set 31 (.int .u8 (bits .and .u8 ((ub.getD 31 0).toNat : Int) 127)) = mu.map bval) := jh (by
  have e1 := u8_and (ub.getD 31 0) 127
  rw [show (127 : Int) = ((127 : UInt8).toNat : Int) from rfl, e1, u8_set, hmu]
  rfl)
 have HCE := jh hcl
 have HME := jh hmu
 have HC := jh (rclamped_any kb wa HKL.out)
 rw [← hcl] at HC
 clear hcl hmu
 go_wp2_with (refine zab rfl _ _ rfl A rfl _ _ _ _ H1.out Tryz.underlying23 HIK.out ?_)
 refine HC.out.mono ?_
 rintro e wb ⟨rfl, hb⟩
 have H1 := jh (zaa H1.out hb)
 have H2 := jh (zaa H2.out hb)
 have HR := jh (zaa HR.out hb)
 have HE := jh (HE.out.trans hb)
 clear hb HC
 go_upto_region 2 with (refine zac rfl _ _ _ rfl A (cl.map bval) rfl rfl _ _ H1.out HLK.out HIC.out (zag _) ?_; intro wc hbm hgm)
 have H2 := jh (H2.out.grown hgm (by simp))
 have HR := jh (HR.out.grown hgm (by simp <;> omega))
 have HE := jh (zae HE.out hgm HO.out)
 have HK := jh hbm
 clear H1 hbm hgm HLK HIK
 have c1 := H2.out.cell 31
 rw [zbb (by rw [HUL.out]; omega)] at c1
 have f1 := H2.out.free 31
 generalize ((ub.getD 31 0).toNat : Int) = q1 at *
 go_upto_region 3 with (fail)
 have HM := jh (H2.out.set 31 (.int .u8 (bits .and .u8 q1 127)))
 rw [HX1.out] at HM
 have HK := jh (HK.out.far (a := ⟨A + 1, 31, none⟩) (by simp) (.int .u8 (bits .and .u8 q1 127)))
 have HR := jh (HR.out.far (a := ⟨A + 1, 31, none⟩) (by simp) (.int .u8 (bits .and .u8 q1 127)))
 have HE : Hid (Ext w _) := jh (Below.setCell HE.out (p := ⟨A + 1, 31, none⟩) (by have := HO.out; simp; omega) (.int .u8 (bits .and .u8 q1 127)))
 generalize bits .and .u8 q1 127 = v1 at *
 generalize wc.setCell ⟨A + 1, 31, none⟩ (.int .u8 v1) = wd at *
 clear c1 f1 HX1 H2
 obtain ⟨x1f, hx1⟩ : ∃ x1f, x1f = fp (leN mu) := ⟨_, rfl⟩
 have HC := jh (rin_f mu wd HML.out)
 rw [← hx1] at HC
 have HXF := jh hx1
 clear hx1
 go_wp2_with (refine zab rfl _ _ rfl (A + 1) rfl _ _ _ _ HM.out Tryz.underlying23 HIM.out ?_)
 refine HC.out.mono ?_
 rintro e wl1 ⟨r, rfl, hr, hb⟩
 obtain ⟨z, hz, lz⟩ := hr.form
 subst hz
 have HK := jh (zaa HK.out hb)
 have HR := jh (zaa HR.out hb)
 have HE := jh (HE.out.trans hb)
 clear hb HC HM
 have HZ := jh (Blk.made wl1 (ints .i64 (List.replicate 16 0)) 75)
 have HEA := jh (Ext.alloc wl1 (.cells (ints .i64 (List.replicate 16 0)).toArray 75))
 have HI := jh (zam lz)
 have HL : Hid ((ints .i64 z).length = (ints .i64 (List.replicate 16 0)).length) := jh (by rw [zad, lz]; rfl)
 go_upto_region 4 with (refine zac rfl _ _ _ rfl wl1.heap.size (ints .i64 z) rfl rfl _ _ HZ.out HL.out HI.out (zai _ _) ?_; intro wl2 hbm hgm)
 have HX := jh (zae HEA.out hgm (Nat.le_refl _))
 obtain ⟨Tx1, hT⟩ : ∃ T, T = wl1.heap.size := ⟨_, rfl⟩
 have HTx1 : Hid (A + 2 < Tx1) := jh (by rw [hT]; exact HR.out.lt)
 rw [← hT] at hbm ⊢
 have HK := jh (zaa HK.out HX.out)
 have HR := jh (zaa HR.out HX.out)
 have HE := jh (HE.out.trans HX.out)
 have Ex1 : Hid (ElB wl2 Tx1 (x1f)) := jh ⟨z, lz, hbm, hr⟩
 have HO := jh (And.intro HO.out HTx1.out)
 clear hbm hgm HZ HEA HX hT hr HI HL lz
 go_wp2_with fail
 refine (rone_f 1 wl2 (by omega) (by omega)).mono ?_
 rintro e wl3 ⟨r, rfl, hr, hb⟩
 obtain ⟨z, hz, lz⟩ := hr.form
 subst hz
 have Ex1 := jh (Ex1.out.ext hb)
 have HK := jh (zaa HK.out hb)
 have HR := jh (zaa HR.out hb)
 have HE := jh (HE.out.trans hb)
 clear hb
 have HZ := jh (Blk.made wl3 (ints .i64 (List.replicate 16 0)) 75)
 have HEA := jh (Ext.alloc wl3 (.cells (ints .i64 (List.replicate 16 0)).toArray 75))
 have HI := jh (zam lz)
 have HL : Hid ((ints .i64 z).length = (ints .i64 (List.replicate 16 0)).length) := jh (by rw [zad, lz]; rfl)
 go_upto_region 5 with (refine zac rfl _ _ _ rfl wl3.heap.size (ints .i64 z) rfl rfl _ _ HZ.out HL.out HI.out (zai _ _) ?_; intro wl4 hbm hgm)
 have HX := jh (zae HEA.out hgm (Nat.le_refl _))
 obtain ⟨Tx2, hT⟩ : ∃ T, T = wl3.heap.size := ⟨_, rfl⟩
 have HTx2 : Hid (Tx1 < Tx2) := jh (by rw [hT]; exact Ex1.out.lt)
 rw [← hT] at hbm ⊢
 have Ex1 := jh (Ex1.out.ext HX.out)
 have HK := jh (zaa HK.out HX.out)
 have HR := jh (zaa HR.out HX.out)
 have HE := jh (HE.out.trans HX.out)
 have Ex2 : Hid (ElB wl4 Tx2 (fp 1)) := jh ⟨z, lz, hbm, hr⟩
 have HO := jh (And.intro HO.out HTx2.out)
 clear hbm hgm HZ HEA HX hT hr HI HL lz
 go_upto_region 6 with (fail)
 change Code.wp _ _ _ _ (wl4.alloc (.cells (ints .i64 (List.replicate 16 0)).toArray 75))
 have HZ := jh (Blk.made wl4 (ints .i64 (List.replicate 16 0)) 75)
 have HEA := jh (Ext.alloc wl4 (.cells (ints .i64 (List.replicate 16 0)).toArray 75))
 obtain ⟨Tz2, hT⟩ : ∃ T, T = wl4.heap.size := ⟨_, rfl⟩
 have HTz2 : Hid (Tx2 < Tz2) := jh (by rw [hT]; exact Ex2.out.lt)
 rw [← hT] at HZ ⊢
 clear hT
 generalize wl4.alloc (.cells (ints .i64 (List.replicate 16 0)).toArray 75) = wl5 at *
 have Ex1 := jh (Ex1.out.ext HEA.out)
 have Ex2 := jh (Ex2.out.ext HEA.out)
 have HK := jh (zaa HK.out HEA.out)
 have HR := jh (zaa HR.out HEA.out)
 have HE := jh (HE.out.trans HEA.out)
 have Ez2 : Hid (ElB wl5 Tz2 0) := jh ⟨List.replicate 16 0, by simp, HZ.out, el_zero⟩
 have HO := jh (And.intro HO.out HTz2.out)
 clear HZ HEA
 obtain ⟨zx1, lx1, bx1, ex1⟩ := Ex1.out
 have Hbx1 := jh bx1
 have Hex1 := jh ex1
 have Hlx1 := jh lx1
 have Hix1 := jh (zam lx1)
 clear bx1 ex1 lx1
 have lz := Hlx1.out
 have hr := Hex1.out
 clear Hlx1 Hex1
 have HZ := jh (Blk.made wl5 (ints .i64 (List.replicate 16 0)) 75)
 have HEA := jh (Ext.alloc wl5 (.cells (ints .i64 (List.replicate 16 0)).toArray 75))
 have HS := jh (zaa Hbx1.out HEA.out)
 have HL : Hid ((ints .i64 zx1).length = (ints .i64 (List.replicate 16 0)).length) := jh (by rw [zad, lz]; rfl)
 go_upto_region 7 with (first | (refine zab rfl _ _ rfl Tx1 rfl _ _ _ _ Hbx1.out Tryz.underlying75 Hix1.out ?_) | (refine zab rfl _ _ rfl Tx1 rfl _ _ _ _ HS.out Tryz.underlying75 Hix1.out ?_) | (refine zac rfl _ _ _ rfl wl5.heap.size (ints .i64 zx1) rfl rfl _ _ HZ.out HL.out Hix1.out (zai _ _) ?_; intro wl6 hbm hgm))
 have HX := jh (zae HEA.out hgm (Nat.le_refl _))
 obtain ⟨Tx3, hT⟩ : ∃ T, T = wl5.heap.size := ⟨_, rfl⟩
 have HTx3 : Hid (Tz2 < Tx3) := jh (by rw [hT]; exact Ez2.out.lt)
 rw [← hT] at hbm ⊢
 have Ex1 := jh (Ex1.out.ext HX.out)
 have Ex2 := jh (Ex2.out.ext HX.out)
 have Ez2 := jh (Ez2.out.ext HX.out)
 have HK := jh (zaa HK.out HX.out)
 have HR := jh (zaa HR.out HX.out)
 have HE := jh (HE.out.trans HX.out)
 have Ex3 : Hid (ElB wl6 Tx3 (x1f)) := jh ⟨zx1, lz, hbm, hr⟩
 have HO := jh (And.intro HO.out HTx3.out)
 clear hbm hgm HZ HEA HX hT hr HL lz HS
 go_wp2_with fail
 refine (rone_f 1 wl6 (by omega) (by omega)).mono ?_
 rintro e wl7 ⟨r, rfl, hr, hb⟩
 obtain ⟨z, hz, lz⟩ := hr.form
 subst hz
 have Ex1 := jh (Ex1.out.ext hb)
 have Ex2 := jh (Ex2.out.ext hb)
 have Ez2 := jh (Ez2.out.ext hb)
 have Ex3 := jh (Ex3.out.ext hb)
 have HK := jh (zaa HK.out hb)
 have HR := jh (zaa HR.out hb)
 have HE := jh (HE.out.trans hb)
 clear hb
 have HZ := jh (Blk.made wl7 (ints .i64 (List.replicate 16 0)) 75)
 have HEA := jh (Ext.alloc wl7 (.cells (ints .i64 (List.replicate 16 0)).toArray 75))
 have HI := jh (zam lz)
 have HL : Hid ((ints .i64 z).length = (ints .i64 (List.replicate 16 0)).length) := jh (by rw [zad, lz]; rfl)
 go_upto_region 8 with (refine zac rfl _ _ _ rfl wl7.heap.size (ints .i64 z) rfl rfl _ _ HZ.out HL.out HI.out (zai _ _) ?_; intro wl8 hbm hgm)
 have HX := jh (zae HEA.out hgm (Nat.le_refl _))
 obtain ⟨Tz3, hT⟩ : ∃ T, T = wl7.heap.size := ⟨_, rfl⟩
 have HTz3 : Hid (Tx3 < Tz3) := jh (by rw [hT]; exact Ex3.out.lt)
 rw [← hT] at hbm ⊢
 have Ex1 := jh (Ex1.out.ext HX.out)
 have Ex2 := jh (Ex2.out.ext HX.out)
 have Ez2 := jh (Ez2.out.ext HX.out)
 have Ex3 := jh (Ex3.out.ext HX.out)
 have HK := jh (zaa HK.out HX.out)
 have HR := jh (zaa HR.out HX.out)
 have HE := jh (HE.out.trans HX.out)
 have Ez3 : Hid (ElB wl8 Tz3 (fp 1)) := jh ⟨z, lz, hbm, hr⟩
 have HO := jh (And.intro HO.out HTz3.out)
 clear hbm hgm HZ HEA HX hT hr HI HL lz
 have Ex2 : Hid (ElB wl8 Tx2 1) := jh (by rw [← fp_one]; exact Ex2.out)
 have Ez3 : Hid (ElB wl8 Tz3 1) := jh (by rw [← fp_one]; exact Ez3.out)
 go_wp2_with fail
 go_loopw [10] (fun i wr => ∃ k : Nat, k ≤ 255 ∧ i = .int .i64 (254 - (k : Int)) ∧ ElB wr Tx1 x1f ∧ ElB wr Tx2 (lrun x1f (leN cl) k).x2 ∧ ElB wr Tz2 (lrun x1f (leN cl) k).z2 ∧ ElB wr Tx3 (lrun x1f (leN cl) k).x3 ∧ ElB wr Tz3 (lrun x1f (leN cl) k).z3 ∧ Blk wr A (cl.map bval) 23 ∧ Blk wr (A + 1 + 1) (ints .u8 (List.replicate 32 0)) 23 ∧ Ext w wr) (fun i _ => (intOf i + 1).toNat)
 case atStart => exact ⟨0, by omega, rfl, Ex1.out, Ex2.out, Ez2.out, Ex3.out, Ez3.out, HK.out, HR.out, HE.out⟩
 case round =>
  clear Ex1 Ex2 Ez2 Ex3 Ez3 HK HR HE
  obtain ⟨k, hk, rfl, q1, q2, q3, q4, q5, q6, q7, q8⟩ := hrel
  have i0' : (0 : Int) ≤ (k : Int) := Int.natCast_nonneg _
  obtain ⟨s, hs⟩ : ∃ s, s = lrun x1f (leN cl) k := ⟨_, rfl⟩
  rw [← hs] at q2 q3 q4 q5
  have Ex1 := jh q1
  have Ex2 := jh q2
  have Ez2 := jh q3
  have Ex3 := jh q4
  have Ez3 := jh q5
  have HK := jh q6
  have HR := jh q7
  have HE := jh q8
  clear q1 q2 q3 q4 q5 q6 q7 q8
  by_cases hlt : k < 255
  ·have i1 : (0 : Int) ≤ 254 - (k : Int) := by omega
   have i2 : (k : Int) ≤ 254 := by omega
   have e1 := HK.out.cell ((254 - k) / 8)
   rw [zbb (by have := HCL.out; omega)] at e1
   generalize hbt : (cl.getD ((254 - k) / 8) 0).toNat = bt at *
   have s1 : ((254 - (k : Int)) / 8).toNat = (254 - k) / 8 := by omega
   have s2 : (0 : Int) ≤ (254 - (k : Int)) / 8 := by omega
   have s3 : (254 - (k : Int)) / 8 < 32 := by omega
   have s4 : (0 : Int) ≤ (254 - (k : Int)) % 8 := by omega
   have s5 : (254 - (k : Int)) % 8 < 8 := by omega
   have s6 : ((254 - (k : Int)) % 8).toNat = (254 - k) % 8 := by omega
   have hbit := leN_bit cl (254 - k) (by have := HCL.out; omega)
   rw [hbt] at hbit
   have hcast : (bt : Int) / 2 ^ ((254 - k) % 8) = ((bt / 2 ^ ((254 - k) % 8) : Nat) : Int) := by
    rw [Int.natCast_ediv, Int.natCast_pow]
    rfl
   have htb : (leN cl).testBit (254 - k) = decide (leN cl / 2 ^ (254 - k) % 2 = 1) := Nat.testBit_eq_decide_div_mod_eq
   by_cases hb1 : leN cl / 2 ^ (254 - k) % 2 = 1
   ·have hq : bits .and .u8 ((bt : Int) / 2 ^ ((254 - k) % 8)) 1 = 1 := by
     rw [hcast, andU1, ← hbit, hb1]
     rfl
    have HG : Hid (lrun x1f (leN cl) (k + 1) = (s.swap.step x1f).swap) := jh (by
     rw [lrun, htb, ← hs]
     simp only [hb1, decide_true, decide_false]
     rfl)
    clear hbit hcast htb hbt hb1
    go_upto_region 13 with (fail)
    clear hq e1 s1 s2 s3 s4 s5 s6 hs
    obtain ⟨zx2, lx2, bx2, ex2⟩ := Ex2.out
    have Hbx2 := jh bx2
    have Hex2 := jh ex2
    have Hlx2 := jh lx2
    have Hix2 := jh (zam lx2)
    clear bx2 ex2 lx2
    obtain ⟨zx3, lx3, bx3, ex3⟩ := Ex3.out
    have Hbx3 := jh bx3
    have Hex3 := jh ex3
    have Hlx3 := jh lx3
    have Hix3 := jh (zam lx3)
    clear bx3 ex3 lx3
    have HL1 : Hid ((ints .i64 zx3).length = (ints .i64 zx2).length) := jh (by rw [zad, zad, Hlx2.out, Hlx3.out])
    have HL2 : Hid ((ints .i64 zx2).length = (ints .i64 zx3).length) := jh (by rw [zad, zad, Hlx2.out, Hlx3.out])
    go_upto_region 14 with (first | (refine zab rfl _ _ rfl Tx2 rfl _ _ _ _ Hbx2.out Tryz.underlying75 Hix2.out ?_) | (refine zab rfl _ _ rfl Tx3 rfl _ _ _ _ Hbx3.out Tryz.underlying75 Hix3.out ?_) | (refine zac rfl _ _ _ rfl Tx2 (ints .i64 zx3) rfl rfl _ _ Hbx2.out HL1.out Hix3.out (zai _ _) ?_; intro wl101 hbm hgm; have HB1 := jh (Hbx3.out.grown hgm (by have := HO.out; simp; omega)); have HG1 := jh hgm; have HN1 := jh hbm; clear hbm hgm) | (refine zac rfl _ _ _ rfl Tx3 (ints .i64 zx2) rfl rfl _ _ HB1.out HL2.out Hix2.out (zai _ _) ?_; intro wl102 hbm hgm))
    have Ex1 := jh ((Ex1.out.grown HG1.out (by have := HO.out; simp; omega)).grown hgm (by have := HO.out; simp; omega))
    have Ez2 := jh ((Ez2.out.grown HG1.out (by have := HO.out; simp; omega)).grown hgm (by have := HO.out; simp; omega))
    have Ez3 := jh ((Ez3.out.grown HG1.out (by have := HO.out; simp; omega)).grown hgm (by have := HO.out; simp; omega))
    have HK := jh ((HK.out.grown HG1.out (by have := HO.out; simp; omega)).grown hgm (by have := HO.out; simp; omega))
    have HR := jh ((HR.out.grown HG1.out (by have := HO.out; simp; omega)).grown hgm (by have := HO.out; simp; omega))
    have HE := jh (zae (zae HE.out HG1.out (by have := HO.out; omega)) hgm (by have := HO.out; omega))
    have Ex2 : Hid (ElB wl102 Tx2 (s.x3)) := jh ⟨zx3, Hlx3.out, HN1.out.grown hgm (by have := HO.out; simp; omega), Hex3.out⟩
    have Ex3 : Hid (ElB wl102 Tx3 (s.x2)) := jh ⟨zx2, Hlx2.out, hbm, Hex2.out⟩
    clear hbm hgm HG1 HN1 HB1 HL1 HL2
    obtain ⟨zz2, lz2, bz2, ez2⟩ := Ez2.out
    have Hbz2 := jh bz2
    have Hez2 := jh ez2
    have Hlz2 := jh lz2
    have Hiz2 := jh (zam lz2)
    clear bz2 ez2 lz2
    obtain ⟨zz3, lz3, bz3, ez3⟩ := Ez3.out
    have Hbz3 := jh bz3
    have Hez3 := jh ez3
    have Hlz3 := jh lz3
    have Hiz3 := jh (zam lz3)
    clear bz3 ez3 lz3
    have HL1 : Hid ((ints .i64 zz3).length = (ints .i64 zz2).length) := jh (by rw [zad, zad, Hlz2.out, Hlz3.out])
    have HL2 : Hid ((ints .i64 zz2).length = (ints .i64 zz3).length) := jh (by rw [zad, zad, Hlz2.out, Hlz3.out])
    go_upto_region 15 with (first | (refine zab rfl _ _ rfl Tz2 rfl _ _ _ _ Hbz2.out Tryz.underlying75 Hiz2.out ?_) | (refine zab rfl _ _ rfl Tz3 rfl _ _ _ _ Hbz3.out Tryz.underlying75 Hiz3.out ?_) | (refine zac rfl _ _ _ rfl Tz2 (ints .i64 zz3) rfl rfl _ _ Hbz2.out HL1.out Hiz3.out (zai _ _) ?_; intro wl103 hbm hgm; have HB1 := jh (Hbz3.out.grown hgm (by have := HO.out; simp; omega)); have HG1 := jh hgm; have HN1 := jh hbm; clear hbm hgm) | (refine zac rfl _ _ _ rfl Tz3 (ints .i64 zz2) rfl rfl _ _ HB1.out HL2.out Hiz2.out (zai _ _) ?_; intro wl104 hbm hgm))
    have Ex1 := jh ((Ex1.out.grown HG1.out (by have := HO.out; simp; omega)).grown hgm (by have := HO.out; simp; omega))
    have Ex2 := jh ((Ex2.out.grown HG1.out (by have := HO.out; simp; omega)).grown hgm (by have := HO.out; simp; omega))
    have Ex3 := jh ((Ex3.out.grown HG1.out (by have := HO.out; simp; omega)).grown hgm (by have := HO.out; simp; omega))
    have HK := jh ((HK.out.grown HG1.out (by have := HO.out; simp; omega)).grown hgm (by have := HO.out; simp; omega))
    have HR := jh ((HR.out.grown HG1.out (by have := HO.out; simp; omega)).grown hgm (by have := HO.out; simp; omega))
    have HE := jh (zae (zae HE.out HG1.out (by have := HO.out; omega)) hgm (by have := HO.out; omega))
    have Ez2 : Hid (ElB wl104 Tz2 (s.z3)) := jh ⟨zz3, Hlz3.out, HN1.out.grown hgm (by have := HO.out; simp; omega), Hez3.out⟩
    have Ez3 : Hid (ElB wl104 Tz3 (s.z2)) := jh ⟨zz2, Hlz2.out, hbm, Hez2.out⟩
    clear hbm hgm HG1 HN1 HB1 HL1 HL2
    obtain ⟨zx2, lx2, bx2, ex2⟩ := Ex2.out
    have Hbx2 := jh bx2
    have Hex2 := jh ex2
    have Hlx2 := jh lx2
    have Hix2 := jh (zam lx2)
    clear bx2 ex2 lx2
    obtain ⟨zz2, lz2, bz2, ez2⟩ := Ez2.out
    have Hbz2 := jh bz2
    have Hez2 := jh ez2
    have Hlz2 := jh lz2
    have Hiz2 := jh (zam lz2)
    clear bz2 ez2 lz2
    go_wp2_with (first | (refine zab rfl _ _ rfl Tx2 rfl _ _ _ _ Hbx2.out Tryz.underlying75 Hix2.out ?_) | (refine zab rfl _ _ rfl Tz2 rfl _ _ _ _ Hbz2.out Tryz.underlying75 Hiz2.out ?_))
    refine (radd_f wl104 Hex2.out Hez2.out).mono ?_
    rintro e wl105 ⟨r, rfl, hr, hb⟩
    obtain ⟨z, hz, lz⟩ := hr.form
    subst hz
    have Ex1 := jh (Ex1.out.ext hb)
    have Ex2 := jh (Ex2.out.ext hb)
    have Ez2 := jh (Ez2.out.ext hb)
    have Ex3 := jh (Ex3.out.ext hb)
    have Ez3 := jh (Ez3.out.ext hb)
    have HK := jh (zaa HK.out hb)
    have HR := jh (zaa HR.out hb)
    have HE := jh (HE.out.trans hb)
    clear hb
    have HZ := jh (Blk.made wl105 (ints .i64 (List.replicate 16 0)) 75)
    have HEA := jh (Ext.alloc wl105 (.cells (ints .i64 (List.replicate 16 0)).toArray 75))
    have HI := jh (zam lz)
    have HL : Hid ((ints .i64 z).length = (ints .i64 (List.replicate 16 0)).length) := jh (by rw [zad, lz]; rfl)
    go_upto_region 16 with (refine zac rfl _ _ _ rfl wl105.heap.size (ints .i64 z) rfl rfl _ _ HZ.out HL.out HI.out (zai _ _) ?_; intro wl106 hbm hgm)
    have HX := jh (zae HEA.out hgm (Nat.le_refl _))
    obtain ⟨TA, hT⟩ : ∃ T, T = wl105.heap.size := ⟨_, rfl⟩
    have HTA : Hid (Tz3 < TA) := jh (by rw [hT]; exact Ez3.out.lt)
    rw [← hT] at hbm ⊢
    have Ex1 := jh (Ex1.out.ext HX.out)
    have Ex2 := jh (Ex2.out.ext HX.out)
    have Ez2 := jh (Ez2.out.ext HX.out)
    have Ex3 := jh (Ex3.out.ext HX.out)
    have Ez3 := jh (Ez3.out.ext HX.out)
    have HK := jh (zaa HK.out HX.out)
    have HR := jh (zaa HR.out HX.out)
    have HE := jh (HE.out.trans HX.out)
    have EA : Hid (ElB wl106 TA (s.x3 + s.z3)) := jh ⟨z, lz, hbm, hr⟩
    have HO := jh (And.intro HO.out HTA.out)
    clear hbm hgm HZ HEA HX hT hr HI HL lz
    obtain ⟨zA, lA, bA, eA⟩ := EA.out
    have HbA := jh bA
    have HeA := jh eA
    have HlA := jh lA
    have HiA := jh (zam lA)
    clear bA eA lA
    go_wp2_with (first | (refine zab rfl _ _ rfl TA rfl _ _ _ _ HbA.out Tryz.underlying75 HiA.out ?_))
    refine (zco wl106 HeA.out HeA.out).mono ?_
    rintro e wl107 ⟨r, rfl, hr, hb⟩
    obtain ⟨z, hz, lz⟩ := hr.form
    subst hz
    have Ex1 := jh (Ex1.out.ext hb)
    have Ex2 := jh (Ex2.out.ext hb)
    have Ez2 := jh (Ez2.out.ext hb)
    have Ex3 := jh (Ex3.out.ext hb)
    have Ez3 := jh (Ez3.out.ext hb)
    have EA := jh (EA.out.ext hb)
    have HK := jh (zaa HK.out hb)
    have HR := jh (zaa HR.out hb)
    have HE := jh (HE.out.trans hb)
    clear hb
    have HZ := jh (Blk.made wl107 (ints .i64 (List.replicate 16 0)) 75)
    have HEA := jh (Ext.alloc wl107 (.cells (ints .i64 (List.replicate 16 0)).toArray 75))
    have HI := jh (zam lz)
    have HL : Hid ((ints .i64 z).length = (ints .i64 (List.replicate 16 0)).length) := jh (by rw [zad, lz]; rfl)
    go_upto_region 17 with (refine zac rfl _ _ _ rfl wl107.heap.size (ints .i64 z) rfl rfl _ _ HZ.out HL.out HI.out (zai _ _) ?_; intro wl108 hbm hgm)
    have HX := jh (zae HEA.out hgm (Nat.le_refl _))
    obtain ⟨TAA, hT⟩ : ∃ T, T = wl107.heap.size := ⟨_, rfl⟩
    have HTAA : Hid (TA < TAA) := jh (by rw [hT]; exact EA.out.lt)
    rw [← hT] at hbm ⊢
    have Ex1 := jh (Ex1.out.ext HX.out)
    have Ex2 := jh (Ex2.out.ext HX.out)
    have Ez2 := jh (Ez2.out.ext HX.out)
    have Ex3 := jh (Ex3.out.ext HX.out)
    have Ez3 := jh (Ez3.out.ext HX.out)
    have EA := jh (EA.out.ext HX.out)
    have HK := jh (zaa HK.out HX.out)
    have HR := jh (zaa HR.out HX.out)
    have HE := jh (HE.out.trans HX.out)
    have EAA : Hid (ElB wl108 TAA ((s.x3 + s.z3) * (s.x3 + s.z3))) := jh ⟨z, lz, hbm, hr⟩
    have HO := jh (And.intro HO.out HTAA.out)
    clear hbm hgm HZ HEA HX hT hr HI HL lz
    obtain ⟨zx2, lx2, bx2, ex2⟩ := Ex2.out
    have Hbx2 := jh bx2
    have Hex2 := jh ex2
    have Hlx2 := jh lx2
    have Hix2 := jh (zam lx2)
    clear bx2 ex2 lx2
    obtain ⟨zz2, lz2, bz2, ez2⟩ := Ez2.out
    have Hbz2 := jh bz2
    have Hez2 := jh ez2
    have Hlz2 := jh lz2
    have Hiz2 := jh (zam lz2)
    clear bz2 ez2 lz2
    go_wp2_with (first | (refine zab rfl _ _ rfl Tx2 rfl _ _ _ _ Hbx2.out Tryz.underlying75 Hix2.out ?_) | (refine zab rfl _ _ rfl Tz2 rfl _ _ _ _ Hbz2.out Tryz.underlying75 Hiz2.out ?_))
    refine (rsub_f wl108 Hex2.out Hez2.out).mono ?_
    rintro e wl109 ⟨r, rfl, hr, hb⟩
    obtain ⟨z, hz, lz⟩ := hr.form
    subst hz
    have Ex1 := jh (Ex1.out.ext hb)
    have Ex2 := jh (Ex2.out.ext hb)
    have Ez2 := jh (Ez2.out.ext hb)
    have Ex3 := jh (Ex3.out.ext hb)
    have Ez3 := jh (Ez3.out.ext hb)
    have EA := jh (EA.out.ext hb)
    have EAA := jh (EAA.out.ext hb)
    have HK := jh (zaa HK.out hb)
    have HR := jh (zaa HR.out hb)
    have HE := jh (HE.out.trans hb)
    clear hb
    have HZ := jh (Blk.made wl109 (ints .i64 (List.replicate 16 0)) 75)
    have HEA := jh (Ext.alloc wl109 (.cells (ints .i64 (List.replicate 16 0)).toArray 75))
    have HI := jh (zam lz)
    have HL : Hid ((ints .i64 z).length = (ints .i64 (List.replicate 16 0)).length) := jh (by rw [zad, lz]; rfl)
    go_upto_region 18 with (refine zac rfl _ _ _ rfl wl109.heap.size (ints .i64 z) rfl rfl _ _ HZ.out HL.out HI.out (zai _ _) ?_; intro wl110 hbm hgm)
    have HX := jh (zae HEA.out hgm (Nat.le_refl _))
    obtain ⟨TBb, hT⟩ : ∃ T, T = wl109.heap.size := ⟨_, rfl⟩
    have HTBb : Hid (TAA < TBb) := jh (by rw [hT]; exact EAA.out.lt)
    rw [← hT] at hbm ⊢
    have Ex1 := jh (Ex1.out.ext HX.out)
    have Ex2 := jh (Ex2.out.ext HX.out)
    have Ez2 := jh (Ez2.out.ext HX.out)
    have Ex3 := jh (Ex3.out.ext HX.out)
    have Ez3 := jh (Ez3.out.ext HX.out)
    have EA := jh (EA.out.ext HX.out)
    have EAA := jh (EAA.out.ext HX.out)
    have HK := jh (zaa HK.out HX.out)
    have HR := jh (zaa HR.out HX.out)
    have HE := jh (HE.out.trans HX.out)
    have EBb : Hid (ElB wl110 TBb (s.x3 - s.z3)) := jh ⟨z, lz, hbm, hr⟩
    have HO := jh (And.intro HO.out HTBb.out)
    clear hbm hgm HZ HEA HX hT hr HI HL lz
    obtain ⟨zBb, lBb, bBb, eBb⟩ := EBb.out
    have HbBb := jh bBb
    have HeBb := jh eBb
    have HlBb := jh lBb
    have HiBb := jh (zam lBb)
    clear bBb eBb lBb
    go_wp2_with (first | (refine zab rfl _ _ rfl TBb rfl _ _ _ _ HbBb.out Tryz.underlying75 HiBb.out ?_))
    refine (zco wl110 HeBb.out HeBb.out).mono ?_
    rintro e wl111 ⟨r, rfl, hr, hb⟩
    obtain ⟨z, hz, lz⟩ := hr.form
    subst hz
    have Ex1 := jh (Ex1.out.ext hb)
    have Ex2 := jh (Ex2.out.ext hb)
    have Ez2 := jh (Ez2.out.ext hb)
    have Ex3 := jh (Ex3.out.ext hb)
    have Ez3 := jh (Ez3.out.ext hb)
    have EA := jh (EA.out.ext hb)
    have EAA := jh (EAA.out.ext hb)
    have EBb := jh (EBb.out.ext hb)
    have HK := jh (zaa HK.out hb)
    have HR := jh (zaa HR.out hb)
    have HE := jh (HE.out.trans hb)
    clear hb
    have HZ := jh (Blk.made wl111 (ints .i64 (List.replicate 16 0)) 75)
    have HEA := jh (Ext.alloc wl111 (.cells (ints .i64 (List.replicate 16 0)).toArray 75))
    have HI := jh (zam lz)
    have HL : Hid ((ints .i64 z).length = (ints .i64 (List.replicate 16 0)).length) := jh (by rw [zad, lz]; rfl)
    go_upto_region 19 with (refine zac rfl _ _ _ rfl wl111.heap.size (ints .i64 z) rfl rfl _ _ HZ.out HL.out HI.out (zai _ _) ?_; intro wl112 hbm hgm)
    have HX := jh (zae HEA.out hgm (Nat.le_refl _))
    obtain ⟨TBB, hT⟩ : ∃ T, T = wl111.heap.size := ⟨_, rfl⟩
    have HTBB : Hid (TBb < TBB) := jh (by rw [hT]; exact EBb.out.lt)
    rw [← hT] at hbm ⊢
    have Ex1 := jh (Ex1.out.ext HX.out)
    have Ex2 := jh (Ex2.out.ext HX.out)
    have Ez2 := jh (Ez2.out.ext HX.out)
    have Ex3 := jh (Ex3.out.ext HX.out)
    have Ez3 := jh (Ez3.out.ext HX.out)
    have EA := jh (EA.out.ext HX.out)
    have EAA := jh (EAA.out.ext HX.out)
    have EBb := jh (EBb.out.ext HX.out)
    have HK := jh (zaa HK.out HX.out)
    have HR := jh (zaa HR.out HX.out)
    have HE := jh (HE.out.trans HX.out)
    have EBB : Hid (ElB wl112 TBB ((s.x3 - s.z3) * (s.x3 - s.z3))) := jh ⟨z, lz, hbm, hr⟩
    have HO := jh (And.intro HO.out HTBB.out)
    clear hbm hgm HZ HEA HX hT hr HI HL lz
    obtain ⟨zAA, lAA, bAA, eAA⟩ := EAA.out
    have HbAA := jh bAA
    have HeAA := jh eAA
    have HlAA := jh lAA
    have HiAA := jh (zam lAA)
    clear bAA eAA lAA
    obtain ⟨zBB, lBB, bBB, eBB⟩ := EBB.out
    have HbBB := jh bBB
    have HeBB := jh eBB
    have HlBB := jh lBB
    have HiBB := jh (zam lBB)
    clear bBB eBB lBB
    go_wp2_with (first | (refine zab rfl _ _ rfl TAA rfl _ _ _ _ HbAA.out Tryz.underlying75 HiAA.out ?_) | (refine zab rfl _ _ rfl TBB rfl _ _ _ _ HbBB.out Tryz.underlying75 HiBB.out ?_))
    refine (rsub_f wl112 HeAA.out HeBB.out).mono ?_
    rintro e wl113 ⟨r, rfl, hr, hb⟩
    obtain ⟨z, hz, lz⟩ := hr.form
    subst hz
    have Ex1 := jh (Ex1.out.ext hb)
    have Ex2 := jh (Ex2.out.ext hb)
    have Ez2 := jh (Ez2.out.ext hb)
    have Ex3 := jh (Ex3.out.ext hb)
    have Ez3 := jh (Ez3.out.ext hb)
    have EA := jh (EA.out.ext hb)
    have EAA := jh (EAA.out.ext hb)
    have EBb := jh (EBb.out.ext hb)
    have EBB := jh (EBB.out.ext hb)
    have HK := jh (zaa HK.out hb)
    have HR := jh (zaa HR.out hb)
    have HE := jh (HE.out.trans hb)
    clear hb
    have HZ := jh (Blk.made wl113 (ints .i64 (List.replicate 16 0)) 75)
    have HEA := jh (Ext.alloc wl113 (.cells (ints .i64 (List.replicate 16 0)).toArray 75))
    have HI := jh (zam lz)
    have HL : Hid ((ints .i64 z).length = (ints .i64 (List.replicate 16 0)).length) := jh (by rw [zad, lz]; rfl)
    go_upto_region 20 with (refine zac rfl _ _ _ rfl wl113.heap.size (ints .i64 z) rfl rfl _ _ HZ.out HL.out HI.out (zai _ _) ?_; intro wl114 hbm hgm)
    have HX := jh (zae HEA.out hgm (Nat.le_refl _))
    obtain ⟨TEe, hT⟩ : ∃ T, T = wl113.heap.size := ⟨_, rfl⟩
    have HTEe : Hid (TBB < TEe) := jh (by rw [hT]; exact EBB.out.lt)
    rw [← hT] at hbm ⊢
    have Ex1 := jh (Ex1.out.ext HX.out)
    have Ex2 := jh (Ex2.out.ext HX.out)
    have Ez2 := jh (Ez2.out.ext HX.out)
    have Ex3 := jh (Ex3.out.ext HX.out)
    have Ez3 := jh (Ez3.out.ext HX.out)
    have EA := jh (EA.out.ext HX.out)
    have EAA := jh (EAA.out.ext HX.out)
    have EBb := jh (EBb.out.ext HX.out)
    have EBB := jh (EBB.out.ext HX.out)
    have HK := jh (zaa HK.out HX.out)
    have HR := jh (zaa HR.out HX.out)
    have HE := jh (HE.out.trans HX.out)
    have EEe : Hid (ElB wl114 TEe (((s.x3 + s.z3) * (s.x3 + s.z3)) - ((s.x3 - s.z3) * (s.x3 - s.z3)))) := jh ⟨z, lz, hbm, hr⟩
    have HO := jh (And.intro HO.out HTEe.out)
    clear hbm hgm HZ HEA HX hT hr HI HL lz
    obtain ⟨zx3, lx3, bx3, ex3⟩ := Ex3.out
    have Hbx3 := jh bx3
    have Hex3 := jh ex3
    have Hlx3 := jh lx3
    have Hix3 := jh (zam lx3)
    clear bx3 ex3 lx3
    obtain ⟨zz3, lz3, bz3, ez3⟩ := Ez3.out
    have Hbz3 := jh bz3
    have Hez3 := jh ez3
    have Hlz3 := jh lz3
    have Hiz3 := jh (zam lz3)
    clear bz3 ez3 lz3
    obtain ⟨zA, lA, bA, eA⟩ := EA.out
    have HbA := jh bA
    have HeA := jh eA
    have HlA := jh lA
    have HiA := jh (zam lA)
    clear bA eA lA
    go_wp2_with fail
    try simp only [Act.put, nrm]
    go_cut [17] from 67 to 71 (fun vq wq => ∃ g, vq = .pointer (some ⟨g, 0, none⟩) ∧ wl114.heap.size ≤ g ∧ ElB wq g ((s.x2 - s.z2) * (s.x3 + s.z3)) ∧ Ext wl114 wq)
    case first =>
     have B0 : Ext wl114 wl114.drew := Ext.drew _
     refine wp_region_held_drew (S := fun w' => Ext wl114 w') (by kernel_rfl) B0 (fun hHeld => ?_)
     refine tke 0 (.agg (ints .i64 zx3).toArray) rfl (yieldsIf_load_mid (by rfl) _ _ rfl Tx3 0 rfl _ _ (fun w h => zbl Hbx3.out h) Tryz.underlying75 rfl Hix3.out) hHeld ?_
     simp only [Act.put, nrm]
     refine tke 1 (.agg (ints .i64 zz3).toArray) rfl (yieldsIf_load_mid (by rfl) _ _ rfl Tz3 0 rfl _ _ (fun w h => zbl Hbz3.out h) Tryz.underlying75 rfl Hiz3.out) hHeld ?_
     simp only [Act.put, nrm]
     refine tke 3 (.agg (ints .i64 zA).toArray) rfl (yieldsIf_load_mid (by rfl) _ _ rfl TA 0 rfl _ _ (fun w h => zbl HbA.out h) Tryz.underlying75 rfl HiA.out) hHeld ?_
     simp only [Act.put, nrm]
     refine wpAnyH_ready (rs := [2, 5]) (by kernel_rfl) (by simp) (AllReadyH.cons rfl (fun K hK => ?_) (AllReadyH.cons rfl (fun K hK => ?_) AllReadyH.nil))
     ·go_simp
      refine (rsub_f _ Hex3.out Hez3.out).mono ?_
      rintro e m1 ⟨v1, rfl, e1, b1⟩
      obtain ⟨z1, hz1, l1⟩ := e1.form
      subst hz1
      have N1 : Ext wl114 m1 := B0.trans b1
      refine hK.out _ _ N1 (fun hHeld => ?_)
      clear hK K
      try simp only [Act.put, nrm]
      refine wpAnyH_ready (rs := [4, 5]) (by kernel_rfl) (by simp) (AllReadyH.cons rfl (fun K hK => ?_) (AllReadyH.cons rfl (fun K hK => ?_) AllReadyH.nil))
      ·go_simp
       refine (zco _ e1 HeA.out).mono ?_
       rintro e m2 ⟨v2, rfl, e2, b2⟩
       obtain ⟨z2, hz2, l2⟩ := e2.form
       subst hz2
       have N2 : Ext wl114 m2 := N1.trans b2
       refine hK.out _ _ N2 (fun hHeld => ?_)
       clear hK K
       try simp only [Act.put, nrm]
       refine rdy 5 rfl fun K hK => ?_
       refine zaw (by rfl) ?_
       refine zby (some 17) _ (ints .i64 (List.replicate 16 0)) rfl rfl Tryz.zeroValue75 ?_
       obtain ⟨m3, hm3⟩ : ∃ wNew, wNew = World.alloc m2 (.cells ((ints .i64 (List.replicate 16 0))).toArray 75) := ⟨_, rfl⟩
       rw [← hm3]
       have b3 : Ext m2 m3 := by rw [hm3]; exact Ext.alloc _ _
       obtain ⟨g3, hg3⟩ : ∃ gNew, gNew = (m2).heap.size := ⟨_, rfl⟩
       rw [← hg3]
       have z3 : Blk m3 g3 (ints .i64 (List.replicate 16 0)) 75 := by rw [hm3, hg3]; exact Blk.made _ _ _
       have l3 : (wl114).heap.size ≤ g3 := by rw [hg3]; exact N2.size
       clear hm3 hg3
       have N3 : Ext wl114 m3 := N2.trans b3
       refine hK.out _ _ N3 (fun hHeld => ?_)
       clear hK K
       try simp only [Act.put, nrm]
       refine rdy 6 rfl fun K hK => ?_
       refine zaw (by rfl) ?_
       refine zau _ _ _ rfl g3 (ints .i64 z2) rfl rfl _ _ z3 (by rw [zad, l2]; rfl) (zam l2) (zai _ _) ?_
       intro m4 hb4 hg4
       have N4 : Ext wl114 m4 := zae N3 hg4 l3
       refine hK.out _ _ N4 (fun hHeld => ?_)
       clear hK K
       try simp only [Act.put, nrm]
       refine dne ?_
       go_wp2_with fail
       go_meet
       exact ⟨_, rfl, l3, ⟨z2, l2, hb4, e2⟩, N4⟩
      ·refine zaw (by rfl) ?_
       refine zby (some 17) _ (ints .i64 (List.replicate 16 0)) rfl rfl Tryz.zeroValue75 ?_
       obtain ⟨m2, hm2⟩ : ∃ wNew, wNew = World.alloc m1 (.cells ((ints .i64 (List.replicate 16 0))).toArray 75) := ⟨_, rfl⟩
       rw [← hm2]
       have b2 : Ext m1 m2 := by rw [hm2]; exact Ext.alloc _ _
       obtain ⟨g2, hg2⟩ : ∃ gNew, gNew = (m1).heap.size := ⟨_, rfl⟩
       rw [← hg2]
       have z2 : Blk m2 g2 (ints .i64 (List.replicate 16 0)) 75 := by rw [hm2, hg2]; exact Blk.made _ _ _
       have l2 : (wl114).heap.size ≤ g2 := by rw [hg2]; exact N1.size
       clear hm2 hg2
       have N2 : Ext wl114 m2 := N1.trans b2
       refine hK.out _ _ N2 (fun hHeld => ?_)
       clear hK K
       try simp only [Act.put, nrm]
       refine rdy 4 rfl fun K hK => ?_
       go_simp
       refine (zco _ e1 HeA.out).mono ?_
       rintro e m3 ⟨v3, rfl, e3, b3⟩
       obtain ⟨z3, hz3, l3⟩ := e3.form
       subst hz3
       have z2 := z2.below b3
       have N3 : Ext wl114 m3 := N2.trans b3
       refine hK.out _ _ N3 (fun hHeld => ?_)
       clear hK K
       try simp only [Act.put, nrm]
       refine rdy 6 rfl fun K hK => ?_
       refine zaw (by rfl) ?_
       refine zau _ _ _ rfl g2 (ints .i64 z3) rfl rfl _ _ z2 (by rw [zad, l3]; rfl) (zam l3) (zai _ _) ?_
       intro m4 hb4 hg4
       have N4 : Ext wl114 m4 := zae N3 hg4 l2
       refine hK.out _ _ N4 (fun hHeld => ?_)
       clear hK K
       try simp only [Act.put, nrm]
       refine dne ?_
       go_wp2_with fail
       go_meet
       exact ⟨_, rfl, l2, ⟨z3, l3, hb4, e3⟩, N4⟩
     ·refine zaw (by rfl) ?_
      refine zby (some 17) _ (ints .i64 (List.replicate 16 0)) rfl rfl Tryz.zeroValue75 ?_
      obtain ⟨m1, hm1⟩ : ∃ wNew, wNew = World.alloc wl114.drew (.cells ((ints .i64 (List.replicate 16 0))).toArray 75) := ⟨_, rfl⟩
      rw [← hm1]
      have b1 : Ext wl114.drew m1 := by rw [hm1]; exact Ext.alloc _ _
      obtain ⟨g1, hg1⟩ : ∃ gNew, gNew = (wl114.drew).heap.size := ⟨_, rfl⟩
      rw [← hg1]
      have z1 : Blk m1 g1 (ints .i64 (List.replicate 16 0)) 75 := by rw [hm1, hg1]; exact Blk.made _ _ _
      have l1 : (wl114).heap.size ≤ g1 := by rw [hg1]; exact B0.size
      clear hm1 hg1
      have N1 : Ext wl114 m1 := B0.trans b1
      refine hK.out _ _ N1 (fun hHeld => ?_)
      clear hK K
      try simp only [Act.put, nrm]
      refine rdy 2 rfl fun K hK => ?_
      go_simp
      refine (rsub_f _ Hex3.out Hez3.out).mono ?_
      rintro e m2 ⟨v2, rfl, e2, b2⟩
      obtain ⟨z2, hz2, l2⟩ := e2.form
      subst hz2
      have z1 := z1.below b2
      have N2 : Ext wl114 m2 := N1.trans b2
      refine hK.out _ _ N2 (fun hHeld => ?_)
      clear hK K
      try simp only [Act.put, nrm]
      refine rdy 4 rfl fun K hK => ?_
      go_simp
      refine (zco _ e2 HeA.out).mono ?_
      rintro e m3 ⟨v3, rfl, e3, b3⟩
      obtain ⟨z3, hz3, l3⟩ := e3.form
      subst hz3
      have z1 := z1.below b3
      have N3 : Ext wl114 m3 := N2.trans b3
      refine hK.out _ _ N3 (fun hHeld => ?_)
      clear hK K
      try simp only [Act.put, nrm]
      refine rdy 6 rfl fun K hK => ?_
      refine zaw (by rfl) ?_
      refine zau _ _ _ rfl g1 (ints .i64 z3) rfl rfl _ _ z1 (by rw [zad, l3]; rfl) (zam l3) (zai _ _) ?_
      intro m4 hb4 hg4
      have N4 : Ext wl114 m4 := zae N3 hg4 l1
      refine hK.out _ _ N4 (fun hHeld => ?_)
      clear hK K
      try simp only [Act.put, nrm]
      refine dne ?_
      go_wp2_with fail
      go_meet
      exact ⟨_, rfl, l1, ⟨z3, l3, hb4, e3⟩, N4⟩
    case rest =>
     obtain ⟨TDA, rfl, hTg, hEl, hX⟩ := hcut
     have HTDA : Hid (TEe < TDA) := jh (Nat.lt_of_lt_of_le EEe.out.lt hTg)
     have Ex1 := jh (Ex1.out.ext hX)
     have Ex2 := jh (Ex2.out.ext hX)
     have Ez2 := jh (Ez2.out.ext hX)
     have Ex3 := jh (Ex3.out.ext hX)
     have Ez3 := jh (Ez3.out.ext hX)
     have EA := jh (EA.out.ext hX)
     have EAA := jh (EAA.out.ext hX)
     have EBb := jh (EBb.out.ext hX)
     have EBB := jh (EBB.out.ext hX)
     have EEe := jh (EEe.out.ext hX)
     have HK := jh (zaa HK.out hX)
     have HR := jh (zaa HR.out hX)
     have HE := jh (HE.out.trans hX)
     have EDA := jh hEl
     have HO := jh (And.intro HO.out HTDA.out)
     clear hEl hX hTg
     generalize wc = wl115 at *
     go_wp2_with fail
     obtain ⟨zx3, lx3, bx3, ex3⟩ := Ex3.out
     have Hbx3 := jh bx3
     have Hex3 := jh ex3
     have Hlx3 := jh lx3
     have Hix3 := jh (zam lx3)
     clear bx3 ex3 lx3
     obtain ⟨zz3, lz3, bz3, ez3⟩ := Ez3.out
     have Hbz3 := jh bz3
     have Hez3 := jh ez3
     have Hlz3 := jh lz3
     have Hiz3 := jh (zam lz3)
     clear bz3 ez3 lz3
     obtain ⟨zBb, lBb, bBb, eBb⟩ := EBb.out
     have HbBb := jh bBb
     have HeBb := jh eBb
     have HlBb := jh lBb
     have HiBb := jh (zam lBb)
     clear bBb eBb lBb
     go_wp2_with fail
     try simp only [Act.put, nrm]
     go_cut [18] from 72 to 76 (fun vq wq => ∃ g, vq = .pointer (some ⟨g, 0, none⟩) ∧ wl115.heap.size ≤ g ∧ ElB wq g ((s.x2 + s.z2) * (s.x3 - s.z3)) ∧ Ext wl115 wq)
     case first =>
      have B0 : Ext wl115 wl115.drew := Ext.drew _
      refine wp_region_held_drew (S := fun w' => Ext wl115 w') (by kernel_rfl) B0 (fun hHeld => ?_)
      refine tke 0 (.agg (ints .i64 zx3).toArray) rfl (yieldsIf_load_mid (by rfl) _ _ rfl Tx3 0 rfl _ _ (fun w h => zbl Hbx3.out h) Tryz.underlying75 rfl Hix3.out) hHeld ?_
      simp only [Act.put, nrm]
      refine tke 1 (.agg (ints .i64 zz3).toArray) rfl (yieldsIf_load_mid (by rfl) _ _ rfl Tz3 0 rfl _ _ (fun w h => zbl Hbz3.out h) Tryz.underlying75 rfl Hiz3.out) hHeld ?_
      simp only [Act.put, nrm]
      refine tke 3 (.agg (ints .i64 zBb).toArray) rfl (yieldsIf_load_mid (by rfl) _ _ rfl TBb 0 rfl _ _ (fun w h => zbl HbBb.out h) Tryz.underlying75 rfl HiBb.out) hHeld ?_
      simp only [Act.put, nrm]
      refine wpAnyH_ready (rs := [2, 5]) (by kernel_rfl) (by simp) (AllReadyH.cons rfl (fun K hK => ?_) (AllReadyH.cons rfl (fun K hK => ?_) AllReadyH.nil))
      ·go_simp
       refine (radd_f _ Hex3.out Hez3.out).mono ?_
       rintro e m1 ⟨v1, rfl, e1, b1⟩
       obtain ⟨z1, hz1, l1⟩ := e1.form
       subst hz1
       have N1 : Ext wl115 m1 := B0.trans b1
       refine hK.out _ _ N1 (fun hHeld => ?_)
       clear hK K
       try simp only [Act.put, nrm]
       refine wpAnyH_ready (rs := [4, 5]) (by kernel_rfl) (by simp) (AllReadyH.cons rfl (fun K hK => ?_) (AllReadyH.cons rfl (fun K hK => ?_) AllReadyH.nil))
       ·go_simp
        refine (zco _ e1 HeBb.out).mono ?_
        rintro e m2 ⟨v2, rfl, e2, b2⟩
        obtain ⟨z2, hz2, l2⟩ := e2.form
        subst hz2
        have N2 : Ext wl115 m2 := N1.trans b2
        refine hK.out _ _ N2 (fun hHeld => ?_)
        clear hK K
        try simp only [Act.put, nrm]
        refine rdy 5 rfl fun K hK => ?_
        refine zaw (by rfl) ?_
        refine zby (some 18) _ (ints .i64 (List.replicate 16 0)) rfl rfl Tryz.zeroValue75 ?_
        obtain ⟨m3, hm3⟩ : ∃ wNew, wNew = World.alloc m2 (.cells ((ints .i64 (List.replicate 16 0))).toArray 75) := ⟨_, rfl⟩
        rw [← hm3]
        have b3 : Ext m2 m3 := by rw [hm3]; exact Ext.alloc _ _
        obtain ⟨g3, hg3⟩ : ∃ gNew, gNew = (m2).heap.size := ⟨_, rfl⟩
        rw [← hg3]
        have z3 : Blk m3 g3 (ints .i64 (List.replicate 16 0)) 75 := by rw [hm3, hg3]; exact Blk.made _ _ _
        have l3 : (wl115).heap.size ≤ g3 := by rw [hg3]; exact N2.size
        clear hm3 hg3
        have N3 : Ext wl115 m3 := N2.trans b3
        refine hK.out _ _ N3 (fun hHeld => ?_)
        clear hK K
        try simp only [Act.put, nrm]
        refine rdy 6 rfl fun K hK => ?_
        refine zaw (by rfl) ?_
        refine zau _ _ _ rfl g3 (ints .i64 z2) rfl rfl _ _ z3 (by rw [zad, l2]; rfl) (zam l2) (zai _ _) ?_
        intro m4 hb4 hg4
        have N4 : Ext wl115 m4 := zae N3 hg4 l3
        refine hK.out _ _ N4 (fun hHeld => ?_)
        clear hK K
        try simp only [Act.put, nrm]
        refine dne ?_
        go_wp2_with fail
        go_meet
        exact ⟨_, rfl, l3, ⟨z2, l2, hb4, e2⟩, N4⟩
       ·refine zaw (by rfl) ?_
        refine zby (some 18) _ (ints .i64 (List.replicate 16 0)) rfl rfl Tryz.zeroValue75 ?_
        obtain ⟨m2, hm2⟩ : ∃ wNew, wNew = World.alloc m1 (.cells ((ints .i64 (List.replicate 16 0))).toArray 75) := ⟨_, rfl⟩
        rw [← hm2]
        have b2 : Ext m1 m2 := by rw [hm2]; exact Ext.alloc _ _
        obtain ⟨g2, hg2⟩ : ∃ gNew, gNew = (m1).heap.size := ⟨_, rfl⟩
        rw [← hg2]
        have z2 : Blk m2 g2 (ints .i64 (List.replicate 16 0)) 75 := by rw [hm2, hg2]; exact Blk.made _ _ _
        have l2 : (wl115).heap.size ≤ g2 := by rw [hg2]; exact N1.size
        clear hm2 hg2
        have N2 : Ext wl115 m2 := N1.trans b2
        refine hK.out _ _ N2 (fun hHeld => ?_)
        clear hK K
        try simp only [Act.put, nrm]
        refine rdy 4 rfl fun K hK => ?_
        go_simp
        refine (zco _ e1 HeBb.out).mono ?_
        rintro e m3 ⟨v3, rfl, e3, b3⟩
        obtain ⟨z3, hz3, l3⟩ := e3.form
        subst hz3
        have z2 := z2.below b3
        have N3 : Ext wl115 m3 := N2.trans b3
        refine hK.out _ _ N3 (fun hHeld => ?_)
        clear hK K
        try simp only [Act.put, nrm]
        refine rdy 6 rfl fun K hK => ?_
        refine zaw (by rfl) ?_
        refine zau _ _ _ rfl g2 (ints .i64 z3) rfl rfl _ _ z2 (by rw [zad, l3]; rfl) (zam l3) (zai _ _) ?_
        intro m4 hb4 hg4
        have N4 : Ext wl115 m4 := zae N3 hg4 l2
        refine hK.out _ _ N4 (fun hHeld => ?_)
        clear hK K
        try simp only [Act.put, nrm]
        refine dne ?_
        go_wp2_with fail
        go_meet
        exact ⟨_, rfl, l2, ⟨z3, l3, hb4, e3⟩, N4⟩
      ·refine zaw (by rfl) ?_
       refine zby (some 18) _ (ints .i64 (List.replicate 16 0)) rfl rfl Tryz.zeroValue75 ?_
       obtain ⟨m1, hm1⟩ : ∃ wNew, wNew = World.alloc wl115.drew (.cells ((ints .i64 (List.replicate 16 0))).toArray 75) := ⟨_, rfl⟩
       rw [← hm1]
       have b1 : Ext wl115.drew m1 := by rw [hm1]; exact Ext.alloc _ _
       obtain ⟨g1, hg1⟩ : ∃ gNew, gNew = (wl115.drew).heap.size := ⟨_, rfl⟩
       rw [← hg1]
       have z1 : Blk m1 g1 (ints .i64 (List.replicate 16 0)) 75 := by rw [hm1, hg1]; exact Blk.made _ _ _
       have l1 : (wl115).heap.size ≤ g1 := by rw [hg1]; exact B0.size
       clear hm1 hg1
       have N1 : Ext wl115 m1 := B0.trans b1
       refine hK.out _ _ N1 (fun hHeld => ?_)
       clear hK K
       try simp only [Act.put, nrm]
       refine rdy 2 rfl fun K hK => ?_
       go_simp
       refine (radd_f _ Hex3.out Hez3.out).mono ?_
       rintro e m2 ⟨v2, rfl, e2, b2⟩
       obtain ⟨z2, hz2, l2⟩ := e2.form
       subst hz2
       have z1 := z1.below b2
       have N2 : Ext wl115 m2 := N1.trans b2
       refine hK.out _ _ N2 (fun hHeld => ?_)
       clear hK K
       try simp only [Act.put, nrm]
       refine rdy 4 rfl fun K hK => ?_
       go_simp
       refine (zco _ e2 HeBb.out).mono ?_
       rintro e m3 ⟨v3, rfl, e3, b3⟩
       obtain ⟨z3, hz3, l3⟩ := e3.form
       subst hz3
       have z1 := z1.below b3
       have N3 : Ext wl115 m3 := N2.trans b3
       refine hK.out _ _ N3 (fun hHeld => ?_)
       clear hK K
       try simp only [Act.put, nrm]
       refine rdy 6 rfl fun K hK => ?_
       refine zaw (by rfl) ?_
       refine zau _ _ _ rfl g1 (ints .i64 z3) rfl rfl _ _ z1 (by rw [zad, l3]; rfl) (zam l3) (zai _ _) ?_
       intro m4 hb4 hg4
       have N4 : Ext wl115 m4 := zae N3 hg4 l1
       refine hK.out _ _ N4 (fun hHeld => ?_)
       clear hK K
       try simp only [Act.put, nrm]
       refine dne ?_
       go_wp2_with fail
       go_meet
       exact ⟨_, rfl, l1, ⟨z3, l3, hb4, e3⟩, N4⟩
     case rest =>
      obtain ⟨TCB, rfl, hTg, hEl, hX⟩ := hcut
      have HTCB : Hid (TDA < TCB) := jh (Nat.lt_of_lt_of_le EDA.out.lt hTg)
      have Ex1 := jh (Ex1.out.ext hX)
      have Ex2 := jh (Ex2.out.ext hX)
      have Ez2 := jh (Ez2.out.ext hX)
      have Ex3 := jh (Ex3.out.ext hX)
      have Ez3 := jh (Ez3.out.ext hX)
      have EA := jh (EA.out.ext hX)
      have EAA := jh (EAA.out.ext hX)
      have EBb := jh (EBb.out.ext hX)
      have EBB := jh (EBB.out.ext hX)
      have EEe := jh (EEe.out.ext hX)
      have EDA := jh (EDA.out.ext hX)
      have HK := jh (zaa HK.out hX)
      have HR := jh (zaa HR.out hX)
      have HE := jh (HE.out.trans hX)
      have ECB := jh hEl
      have HO := jh (And.intro HO.out HTCB.out)
      clear hEl hX hTg
      generalize wc = wl116 at *
      obtain ⟨zDA, lDA, bDA, eDA⟩ := EDA.out
      have HbDA := jh bDA
      have HeDA := jh eDA
      have HlDA := jh lDA
      have HiDA := jh (zam lDA)
      clear bDA eDA lDA
      obtain ⟨zCB, lCB, bCB, eCB⟩ := ECB.out
      have HbCB := jh bCB
      have HeCB := jh eCB
      have HlCB := jh lCB
      have HiCB := jh (zam lCB)
      clear bCB eCB lCB
      go_wp2_with (first | (refine zab rfl _ _ rfl TDA rfl _ _ _ _ HbDA.out Tryz.underlying75 HiDA.out ?_) | (refine zab rfl _ _ rfl TCB rfl _ _ _ _ HbCB.out Tryz.underlying75 HiCB.out ?_))
      refine (radd_f wl116 HeDA.out HeCB.out).mono ?_
      rintro e wl117 ⟨r, rfl, hr, hb⟩
      obtain ⟨z, hz, lz⟩ := hr.form
      subst hz
      have Ex1 := jh (Ex1.out.ext hb)
      have Ex2 := jh (Ex2.out.ext hb)
      have Ez2 := jh (Ez2.out.ext hb)
      have Ex3 := jh (Ex3.out.ext hb)
      have Ez3 := jh (Ez3.out.ext hb)
      have EA := jh (EA.out.ext hb)
      have EAA := jh (EAA.out.ext hb)
      have EBb := jh (EBb.out.ext hb)
      have EBB := jh (EBB.out.ext hb)
      have EEe := jh (EEe.out.ext hb)
      have EDA := jh (EDA.out.ext hb)
      have ECB := jh (ECB.out.ext hb)
      have HK := jh (zaa HK.out hb)
      have HR := jh (zaa HR.out hb)
      have HE := jh (HE.out.trans hb)
      clear hb
      have HZ := jh (Blk.made wl117 (ints .i64 (List.replicate 16 0)) 75)
      have HEA := jh (Ext.alloc wl117 (.cells (ints .i64 (List.replicate 16 0)).toArray 75))
      have HI := jh (zam lz)
      have HL : Hid ((ints .i64 z).length = (ints .i64 (List.replicate 16 0)).length) := jh (by rw [zad, lz]; rfl)
      go_upto_region 23 with (refine zac rfl _ _ _ rfl wl117.heap.size (ints .i64 z) rfl rfl _ _ HZ.out HL.out HI.out (zai _ _) ?_; intro wl118 hbm hgm)
      have HX := jh (zae HEA.out hgm (Nat.le_refl _))
      obtain ⟨TS, hT⟩ : ∃ T, T = wl117.heap.size := ⟨_, rfl⟩
      have HTS : Hid (TCB < TS) := jh (by rw [hT]; exact ECB.out.lt)
      rw [← hT] at hbm ⊢
      have Ex1 := jh (Ex1.out.ext HX.out)
      have Ex2 := jh (Ex2.out.ext HX.out)
      have Ez2 := jh (Ez2.out.ext HX.out)
      have Ex3 := jh (Ex3.out.ext HX.out)
      have Ez3 := jh (Ez3.out.ext HX.out)
      have EA := jh (EA.out.ext HX.out)
      have EAA := jh (EAA.out.ext HX.out)
      have EBb := jh (EBb.out.ext HX.out)
      have EBB := jh (EBB.out.ext HX.out)
      have EEe := jh (EEe.out.ext HX.out)
      have EDA := jh (EDA.out.ext HX.out)
      have ECB := jh (ECB.out.ext HX.out)
      have HK := jh (zaa HK.out HX.out)
      have HR := jh (zaa HR.out HX.out)
      have HE := jh (HE.out.trans HX.out)
      have ES : Hid (ElB wl118 TS (((s.x2 - s.z2) * (s.x3 + s.z3)) + ((s.x2 + s.z2) * (s.x3 - s.z3)))) := jh ⟨z, lz, hbm, hr⟩
      have HO := jh (And.intro HO.out HTS.out)
      clear hbm hgm HZ HEA HX hT hr HI HL lz
      obtain ⟨zDA, lDA, bDA, eDA⟩ := EDA.out
      have HbDA := jh bDA
      have HeDA := jh eDA
      have HlDA := jh lDA
      have HiDA := jh (zam lDA)
      clear bDA eDA lDA
      obtain ⟨zCB, lCB, bCB, eCB⟩ := ECB.out
      have HbCB := jh bCB
      have HeCB := jh eCB
      have HlCB := jh lCB
      have HiCB := jh (zam lCB)
      clear bCB eCB lCB
      go_wp2_with (first | (refine zab rfl _ _ rfl TDA rfl _ _ _ _ HbDA.out Tryz.underlying75 HiDA.out ?_) | (refine zab rfl _ _ rfl TCB rfl _ _ _ _ HbCB.out Tryz.underlying75 HiCB.out ?_))
      refine (rsub_f wl118 HeDA.out HeCB.out).mono ?_
      rintro e wl119 ⟨r, rfl, hr, hb⟩
      obtain ⟨z, hz, lz⟩ := hr.form
      subst hz
      have Ex1 := jh (Ex1.out.ext hb)
      have Ex2 := jh (Ex2.out.ext hb)
      have Ez2 := jh (Ez2.out.ext hb)
      have Ex3 := jh (Ex3.out.ext hb)
      have Ez3 := jh (Ez3.out.ext hb)
      have EA := jh (EA.out.ext hb)
      have EAA := jh (EAA.out.ext hb)
      have EBb := jh (EBb.out.ext hb)
      have EBB := jh (EBB.out.ext hb)
      have EEe := jh (EEe.out.ext hb)
      have EDA := jh (EDA.out.ext hb)
      have ECB := jh (ECB.out.ext hb)
      have ES := jh (ES.out.ext hb)
      have HK := jh (zaa HK.out hb)
      have HR := jh (zaa HR.out hb)
      have HE := jh (HE.out.trans hb)
      clear hb
      have HZ := jh (Blk.made wl119 (ints .i64 (List.replicate 16 0)) 75)
      have HEA := jh (Ext.alloc wl119 (.cells (ints .i64 (List.replicate 16 0)).toArray 75))
      have HI := jh (zam lz)
      have HL : Hid ((ints .i64 z).length = (ints .i64 (List.replicate 16 0)).length) := jh (by rw [zad, lz]; rfl)
      go_upto_region 24 with (refine zac rfl _ _ _ rfl wl119.heap.size (ints .i64 z) rfl rfl _ _ HZ.out HL.out HI.out (zai _ _) ?_; intro wl120 hbm hgm)
      have HX := jh (zae HEA.out hgm (Nat.le_refl _))
      obtain ⟨TDd, hT⟩ : ∃ T, T = wl119.heap.size := ⟨_, rfl⟩
      have HTDd : Hid (TS < TDd) := jh (by rw [hT]; exact ES.out.lt)
      rw [← hT] at hbm ⊢
      have Ex1 := jh (Ex1.out.ext HX.out)
      have Ex2 := jh (Ex2.out.ext HX.out)
      have Ez2 := jh (Ez2.out.ext HX.out)
      have Ex3 := jh (Ex3.out.ext HX.out)
      have Ez3 := jh (Ez3.out.ext HX.out)
      have EA := jh (EA.out.ext HX.out)
      have EAA := jh (EAA.out.ext HX.out)
      have EBb := jh (EBb.out.ext HX.out)
      have EBB := jh (EBB.out.ext HX.out)
      have EEe := jh (EEe.out.ext HX.out)
      have EDA := jh (EDA.out.ext HX.out)
      have ECB := jh (ECB.out.ext HX.out)
      have ES := jh (ES.out.ext HX.out)
      have HK := jh (zaa HK.out HX.out)
      have HR := jh (zaa HR.out HX.out)
      have HE := jh (HE.out.trans HX.out)
      have EDd : Hid (ElB wl120 TDd (((s.x2 - s.z2) * (s.x3 + s.z3)) - ((s.x2 + s.z2) * (s.x3 - s.z3)))) := jh ⟨z, lz, hbm, hr⟩
      have HO := jh (And.intro HO.out HTDd.out)
      clear hbm hgm HZ HEA HX hT hr HI HL lz
      obtain ⟨zS, lS, bS, eS⟩ := ES.out
      have HbS := jh bS
      have HeS := jh eS
      have HlS := jh lS
      have HiS := jh (zam lS)
      clear bS eS lS
      go_wp2_with (first | (refine zab rfl _ _ rfl TS rfl _ _ _ _ HbS.out Tryz.underlying75 HiS.out ?_))
      refine (zco wl120 HeS.out HeS.out).mono ?_
      rintro e wl121 ⟨r, rfl, hr, hb⟩
      obtain ⟨z, hz, lz⟩ := hr.form
      subst hz
      have Ex1 := jh (Ex1.out.ext hb)
      have Ex2 := jh (Ex2.out.ext hb)
      have Ez2 := jh (Ez2.out.ext hb)
      have Ex3 := jh (Ex3.out.ext hb)
      have Ez3 := jh (Ez3.out.ext hb)
      have EA := jh (EA.out.ext hb)
      have EAA := jh (EAA.out.ext hb)
      have EBb := jh (EBb.out.ext hb)
      have EBB := jh (EBB.out.ext hb)
      have EEe := jh (EEe.out.ext hb)
      have EDA := jh (EDA.out.ext hb)
      have ECB := jh (ECB.out.ext hb)
      have ES := jh (ES.out.ext hb)
      have EDd := jh (EDd.out.ext hb)
      have HK := jh (zaa HK.out hb)
      have HR := jh (zaa HR.out hb)
      have HE := jh (HE.out.trans hb)
      clear hb
      obtain ⟨zx3, lx3, bx3, ex3⟩ := Ex3.out
      have Hbx3 := jh bx3
      have Hex3 := jh ex3
      have Hlx3 := jh lx3
      have Hix3 := jh (zam lx3)
      clear bx3 ex3 lx3
      have HI := jh (zam lz)
      have HL : Hid ((ints .i64 z).length = (ints .i64 zx3).length) := jh (by rw [zad, zad, lz, Hlx3.out])
      go_upto_region 25 with (refine zac rfl _ _ _ rfl Tx3 (ints .i64 z) rfl rfl _ _ Hbx3.out HL.out HI.out (zai _ _) ?_; intro wl122 hbm hgm)
      have Ex1 := jh (Ex1.out.grown hgm (by have := HO.out; simp; omega))
      have Ex2 := jh (Ex2.out.grown hgm (by have := HO.out; simp; omega))
      have Ez2 := jh (Ez2.out.grown hgm (by have := HO.out; simp; omega))
      have Ez3 := jh (Ez3.out.grown hgm (by have := HO.out; simp; omega))
      have EA := jh (EA.out.grown hgm (by have := HO.out; simp; omega))
      have EAA := jh (EAA.out.grown hgm (by have := HO.out; simp; omega))
      have EBb := jh (EBb.out.grown hgm (by have := HO.out; simp; omega))
      have EBB := jh (EBB.out.grown hgm (by have := HO.out; simp; omega))
      have EEe := jh (EEe.out.grown hgm (by have := HO.out; simp; omega))
      have EDA := jh (EDA.out.grown hgm (by have := HO.out; simp; omega))
      have ECB := jh (ECB.out.grown hgm (by have := HO.out; simp; omega))
      have ES := jh (ES.out.grown hgm (by have := HO.out; simp; omega))
      have EDd := jh (EDd.out.grown hgm (by have := HO.out; simp; omega))
      have HK := jh (HK.out.grown hgm (by have := HO.out; simp; omega))
      have HR := jh (HR.out.grown hgm (by have := HO.out; simp; omega))
      have HE := jh (zae HE.out hgm (by have := HO.out; omega))
      have Ex3 : Hid (ElB wl122 Tx3 ((((s.x2 - s.z2) * (s.x3 + s.z3)) + ((s.x2 + s.z2) * (s.x3 - s.z3))) * (((s.x2 - s.z2) * (s.x3 + s.z3)) + ((s.x2 + s.z2) * (s.x3 - s.z3))))) := jh ⟨z, lz, hbm, hr⟩
      clear hbm hgm hr HI HL lz
      obtain ⟨zx1, lx1, bx1, ex1⟩ := Ex1.out
      have Hbx1 := jh bx1
      have Hex1 := jh ex1
      have Hlx1 := jh lx1
      have Hix1 := jh (zam lx1)
      clear bx1 ex1 lx1
      obtain ⟨zDd, lDd, bDd, eDd⟩ := EDd.out
      have HbDd := jh bDd
      have HeDd := jh eDd
      have HlDd := jh lDd
      have HiDd := jh (zam lDd)
      clear bDd eDd lDd
      obtain ⟨zz3, lz3, bz3, ez3⟩ := Ez3.out
      have Hbz3 := jh bz3
      have Hez3 := jh ez3
      have Hlz3 := jh lz3
      have Hiz3 := jh (zam lz3)
      clear bz3 ez3 lz3
      go_wp2_with fail
      try simp only [Act.put, nrm]
      go_cut [86] from 87 to 90 (fun vq wq => ∃ wx, Ext wl122 wx ∧ wx.grownBy wq (some Tz3) ∧ ElB wq Tz3 (x1f * ((((s.x2 - s.z2) * (s.x3 + s.z3)) - ((s.x2 + s.z2) * (s.x3 - s.z3))) * (((s.x2 - s.z2) * (s.x3 + s.z3)) - ((s.x2 + s.z2) * (s.x3 - s.z3))))))
      case first =>
       have B0 : Ext wl122 wl122.drew := Ext.drew _
       refine wp_region_held_drew (S := fun w' => Far (Tz3) wl122 w') (by kernel_rfl) (zbn B0) (fun hHeld => ?_)
       refine tke 0 (.agg (ints .i64 zx1).toArray) rfl (yieldsIf_load_mid (by rfl) _ _ rfl Tx1 0 rfl _ _ (fun w h => zca Hbx1.out (by have := HO.out; omega) h) Tryz.underlying75 rfl Hix1.out) hHeld ?_
       simp only [Act.put, nrm]
       refine tke 1 (.agg (ints .i64 zDd).toArray) rfl (yieldsIf_load_mid (by rfl) _ _ rfl TDd 0 rfl _ _ (fun w h => zca HbDd.out (by have := HO.out; omega) h) Tryz.underlying75 rfl HiDd.out) hHeld ?_
       simp only [Act.put, nrm]
       refine tke 2 (.agg (ints .i64 zDd).toArray) rfl (yieldsIf_load_mid (by rfl) _ _ rfl TDd 0 rfl _ _ (fun w h => zca HbDd.out (by have := HO.out; omega) h) Tryz.underlying75 rfl HiDd.out) hHeld ?_
       simp only [Act.put, nrm]
       refine rdy 3 rfl fun K hK => ?_
       go_simp
       refine (zco _ HeDd.out HeDd.out).mono ?_
       rintro e m1 ⟨v1, rfl, e1, b1⟩
       obtain ⟨z1, hz1, l1⟩ := e1.form
       subst hz1
       have N1 : Ext wl122 m1 := B0.trans b1
       refine hK.out _ _ (zbn N1) (fun hHeld => ?_)
       clear hK K
       try simp only [Act.put, nrm]
       refine rdy 4 rfl fun K hK => ?_
       go_simp
       refine (zco _ Hex1.out e1).mono ?_
       rintro e m2 ⟨v2, rfl, e2, b2⟩
       obtain ⟨z2, hz2, l2⟩ := e2.form
       subst hz2
       have N2 : Ext wl122 m2 := N1.trans b2
       refine hK.out _ _ (zbn N2) (fun hHeld => ?_)
       clear hK K
       try simp only [Act.put, nrm]
       refine rdy 5 rfl fun K hK => ?_
       refine zaw (by rfl) ?_
       refine zau _ _ _ rfl Tz3 (ints .i64 z2) rfl rfl _ _ (zaa Hbz3.out N2) (by rw [zad, zad, l2, Hlz3.out]) (zam l2) (zai _ _) ?_
       intro m3 hb3 hg3
       refine hK.out _ _ (fars_put N2 hg3) (fun hHeld => ?_)
       clear hK K
       try simp only [Act.put, nrm]
       refine dne ?_
       go_wp2_with fail
       go_meet
       exact ⟨_, N2, hg3, ⟨z2, l2, hb3, e2⟩⟩
      case rest =>
       obtain ⟨wx, hX, hgm, hEl⟩ := hcut
       have Ex1 := jh (Ex1.out.ext hX)
       have Ex2 := jh (Ex2.out.ext hX)
       have Ez2 := jh (Ez2.out.ext hX)
       have Ex3 := jh (Ex3.out.ext hX)
       have Ez3 := jh (Ez3.out.ext hX)
       have EA := jh (EA.out.ext hX)
       have EAA := jh (EAA.out.ext hX)
       have EBb := jh (EBb.out.ext hX)
       have EBB := jh (EBB.out.ext hX)
       have EEe := jh (EEe.out.ext hX)
       have EDA := jh (EDA.out.ext hX)
       have ECB := jh (ECB.out.ext hX)
       have ES := jh (ES.out.ext hX)
       have EDd := jh (EDd.out.ext hX)
       have HK := jh (zaa HK.out hX)
       have HR := jh (zaa HR.out hX)
       have HE := jh (HE.out.trans hX)
       have Ex1 := jh (Ex1.out.grown hgm (by have := HO.out; simp; omega))
       have Ex2 := jh (Ex2.out.grown hgm (by have := HO.out; simp; omega))
       have Ez2 := jh (Ez2.out.grown hgm (by have := HO.out; simp; omega))
       have Ex3 := jh (Ex3.out.grown hgm (by have := HO.out; simp; omega))
       have EA := jh (EA.out.grown hgm (by have := HO.out; simp; omega))
       have EAA := jh (EAA.out.grown hgm (by have := HO.out; simp; omega))
       have EBb := jh (EBb.out.grown hgm (by have := HO.out; simp; omega))
       have EBB := jh (EBB.out.grown hgm (by have := HO.out; simp; omega))
       have EEe := jh (EEe.out.grown hgm (by have := HO.out; simp; omega))
       have EDA := jh (EDA.out.grown hgm (by have := HO.out; simp; omega))
       have ECB := jh (ECB.out.grown hgm (by have := HO.out; simp; omega))
       have ES := jh (ES.out.grown hgm (by have := HO.out; simp; omega))
       have EDd := jh (EDd.out.grown hgm (by have := HO.out; simp; omega))
       have HK := jh (HK.out.grown hgm (by have := HO.out; simp; omega))
       have HR := jh (HR.out.grown hgm (by have := HO.out; simp; omega))
       have HE := jh (zae HE.out hgm (by have := HO.out; omega))
       have Ez3 := jh hEl
       clear hEl hX hgm
       generalize wc = wl123 at *
       obtain ⟨zAA, lAA, bAA, eAA⟩ := EAA.out
       have HbAA := jh bAA
       have HeAA := jh eAA
       have HlAA := jh lAA
       have HiAA := jh (zam lAA)
       clear bAA eAA lAA
       obtain ⟨zBB, lBB, bBB, eBB⟩ := EBB.out
       have HbBB := jh bBB
       have HeBB := jh eBB
       have HlBB := jh lBB
       have HiBB := jh (zam lBB)
       clear bBB eBB lBB
       go_wp2_with (first | (refine zab rfl _ _ rfl TAA rfl _ _ _ _ HbAA.out Tryz.underlying75 HiAA.out ?_) | (refine zab rfl _ _ rfl TBB rfl _ _ _ _ HbBB.out Tryz.underlying75 HiBB.out ?_))
       refine (zco wl123 HeAA.out HeBB.out).mono ?_
       rintro e wl124 ⟨r, rfl, hr, hb⟩
       obtain ⟨z, hz, lz⟩ := hr.form
       subst hz
       have Ex1 := jh (Ex1.out.ext hb)
       have Ex2 := jh (Ex2.out.ext hb)
       have Ez2 := jh (Ez2.out.ext hb)
       have Ex3 := jh (Ex3.out.ext hb)
       have Ez3 := jh (Ez3.out.ext hb)
       have EA := jh (EA.out.ext hb)
       have EAA := jh (EAA.out.ext hb)
       have EBb := jh (EBb.out.ext hb)
       have EBB := jh (EBB.out.ext hb)
       have EEe := jh (EEe.out.ext hb)
       have EDA := jh (EDA.out.ext hb)
       have ECB := jh (ECB.out.ext hb)
       have ES := jh (ES.out.ext hb)
       have EDd := jh (EDd.out.ext hb)
       have HK := jh (zaa HK.out hb)
       have HR := jh (zaa HR.out hb)
       have HE := jh (HE.out.trans hb)
       clear hb
       obtain ⟨zx2, lx2, bx2, ex2⟩ := Ex2.out
       have Hbx2 := jh bx2
       have Hex2 := jh ex2
       have Hlx2 := jh lx2
       have Hix2 := jh (zam lx2)
       clear bx2 ex2 lx2
       have HI := jh (zam lz)
       have HL : Hid ((ints .i64 z).length = (ints .i64 zx2).length) := jh (by rw [zad, zad, lz, Hlx2.out])
       go_upto_region 27 with (refine zac rfl _ _ _ rfl Tx2 (ints .i64 z) rfl rfl _ _ Hbx2.out HL.out HI.out (zai _ _) ?_; intro wl125 hbm hgm)
       have Ex1 := jh (Ex1.out.grown hgm (by have := HO.out; simp; omega))
       have Ez2 := jh (Ez2.out.grown hgm (by have := HO.out; simp; omega))
       have Ex3 := jh (Ex3.out.grown hgm (by have := HO.out; simp; omega))
       have Ez3 := jh (Ez3.out.grown hgm (by have := HO.out; simp; omega))
       have EA := jh (EA.out.grown hgm (by have := HO.out; simp; omega))
       have EAA := jh (EAA.out.grown hgm (by have := HO.out; simp; omega))
       have EBb := jh (EBb.out.grown hgm (by have := HO.out; simp; omega))
       have EBB := jh (EBB.out.grown hgm (by have := HO.out; simp; omega))
       have EEe := jh (EEe.out.grown hgm (by have := HO.out; simp; omega))
       have EDA := jh (EDA.out.grown hgm (by have := HO.out; simp; omega))
       have ECB := jh (ECB.out.grown hgm (by have := HO.out; simp; omega))
       have ES := jh (ES.out.grown hgm (by have := HO.out; simp; omega))
       have EDd := jh (EDd.out.grown hgm (by have := HO.out; simp; omega))
       have HK := jh (HK.out.grown hgm (by have := HO.out; simp; omega))
       have HR := jh (HR.out.grown hgm (by have := HO.out; simp; omega))
       have HE := jh (zae HE.out hgm (by have := HO.out; omega))
       have Ex2 : Hid (ElB wl125 Tx2 (((s.x3 + s.z3) * (s.x3 + s.z3)) * ((s.x3 - s.z3) * (s.x3 - s.z3)))) := jh ⟨z, lz, hbm, hr⟩
       clear hbm hgm hr HI HL lz
       obtain ⟨zEe, lEe, bEe, eEe⟩ := EEe.out
       have HbEe := jh bEe
       have HeEe := jh eEe
       have HlEe := jh lEe
       have HiEe := jh (zam lEe)
       clear bEe eEe lEe
       obtain ⟨zAA, lAA, bAA, eAA⟩ := EAA.out
       have HbAA := jh bAA
       have HeAA := jh eAA
       have HlAA := jh lAA
       have HiAA := jh (zam lAA)
       clear bAA eAA lAA
       obtain ⟨zz2, lz2, bz2, ez2⟩ := Ez2.out
       have Hbz2 := jh bz2
       have Hez2 := jh ez2
       have Hlz2 := jh lz2
       have Hiz2 := jh (zam lz2)
       clear bz2 ez2 lz2
       go_wp2_with fail
       try simp only [Act.put, nrm]
       go_cut [94] from 95 to 100 (fun vq wq => ∃ wx, Ext wl125 wx ∧ wx.grownBy wq (some Tz2) ∧ ElB wq Tz2 ((((s.x3 + s.z3) * (s.x3 + s.z3)) - ((s.x3 - s.z3) * (s.x3 - s.z3))) * (((s.x3 + s.z3) * (s.x3 + s.z3)) + fp 121665 * (((s.x3 + s.z3) * (s.x3 + s.z3)) - ((s.x3 - s.z3) * (s.x3 - s.z3))))))
       case first =>
        have B0 : Ext wl125 wl125.drew := Ext.drew _
        refine wp_region_held_drew (S := fun w' => Far (Tz2) wl125 w') (by kernel_rfl) (zbn B0) (fun hHeld => ?_)
        refine tke 0 (.agg (ints .i64 zEe).toArray) rfl (yieldsIf_load_mid (by rfl) _ _ rfl TEe 0 rfl _ _ (fun w h => zca HbEe.out (by have := HO.out; omega) h) Tryz.underlying75 rfl HiEe.out) hHeld ?_
        simp only [Act.put, nrm]
        refine tke 1 (.agg (ints .i64 zAA).toArray) rfl (yieldsIf_load_mid (by rfl) _ _ rfl TAA 0 rfl _ _ (fun w h => zca HbAA.out (by have := HO.out; omega) h) Tryz.underlying75 rfl HiAA.out) hHeld ?_
        simp only [Act.put, nrm]
        refine tke 3 (.agg (ints .i64 zEe).toArray) rfl (yieldsIf_load_mid (by rfl) _ _ rfl TEe 0 rfl _ _ (fun w h => zca HbEe.out (by have := HO.out; omega) h) Tryz.underlying75 rfl HiEe.out) hHeld ?_
        simp only [Act.put, nrm]
        refine rdy 2 rfl fun K hK => ?_
        go_simp
        refine (rone_f 121665 _ (by omega) (by omega)).mono ?_
        rintro e m1 ⟨v1, rfl, e1, b1⟩
        obtain ⟨z1, hz1, l1⟩ := e1.form
        subst hz1
        have N1 : Ext wl125 m1 := B0.trans b1
        refine hK.out _ _ (zbn N1) (fun hHeld => ?_)
        clear hK K
        try simp only [Act.put, nrm]
        refine rdy 4 rfl fun K hK => ?_
        go_simp
        refine (zco _ e1 HeEe.out).mono ?_
        rintro e m2 ⟨v2, rfl, e2, b2⟩
        obtain ⟨z2, hz2, l2⟩ := e2.form
        subst hz2
        have N2 : Ext wl125 m2 := N1.trans b2
        refine hK.out _ _ (zbn N2) (fun hHeld => ?_)
        clear hK K
        try simp only [Act.put, nrm]
        refine rdy 5 rfl fun K hK => ?_
        go_simp
        refine (radd_f _ HeAA.out e2).mono ?_
        rintro e m3 ⟨v3, rfl, e3, b3⟩
        obtain ⟨z3, hz3, l3⟩ := e3.form
        subst hz3
        have N3 : Ext wl125 m3 := N2.trans b3
        refine hK.out _ _ (zbn N3) (fun hHeld => ?_)
        clear hK K
        try simp only [Act.put, nrm]
        refine rdy 6 rfl fun K hK => ?_
        go_simp
        refine (zco _ HeEe.out e3).mono ?_
        rintro e m4 ⟨v4, rfl, e4, b4⟩
        obtain ⟨z4, hz4, l4⟩ := e4.form
        subst hz4
        have N4 : Ext wl125 m4 := N3.trans b4
        refine hK.out _ _ (zbn N4) (fun hHeld => ?_)
        clear hK K
        try simp only [Act.put, nrm]
        refine rdy 7 rfl fun K hK => ?_
        refine zaw (by rfl) ?_
        refine zau _ _ _ rfl Tz2 (ints .i64 z4) rfl rfl _ _ (zaa Hbz2.out N4) (by rw [zad, zad, l4, Hlz2.out]) (zam l4) (zai _ _) ?_
        intro m5 hb5 hg5
        refine hK.out _ _ (fars_put N4 hg5) (fun hHeld => ?_)
        clear hK K
        try simp only [Act.put, nrm]
        refine dne ?_
        go_wp2_with fail
        go_meet
        exact ⟨_, N4, hg5, ⟨z4, l4, hb5, e4⟩⟩
       case rest =>
        obtain ⟨wx, hX, hgm, hEl⟩ := hcut
        have Ex1 := jh (Ex1.out.ext hX)
        have Ex2 := jh (Ex2.out.ext hX)
        have Ez2 := jh (Ez2.out.ext hX)
        have Ex3 := jh (Ex3.out.ext hX)
        have Ez3 := jh (Ez3.out.ext hX)
        have EA := jh (EA.out.ext hX)
        have EAA := jh (EAA.out.ext hX)
        have EBb := jh (EBb.out.ext hX)
        have EBB := jh (EBB.out.ext hX)
        have EEe := jh (EEe.out.ext hX)
        have EDA := jh (EDA.out.ext hX)
        have ECB := jh (ECB.out.ext hX)
        have ES := jh (ES.out.ext hX)
        have EDd := jh (EDd.out.ext hX)
        have HK := jh (zaa HK.out hX)
        have HR := jh (zaa HR.out hX)
        have HE := jh (HE.out.trans hX)
        have Ex1 := jh (Ex1.out.grown hgm (by have := HO.out; simp; omega))
        have Ex2 := jh (Ex2.out.grown hgm (by have := HO.out; simp; omega))
        have Ex3 := jh (Ex3.out.grown hgm (by have := HO.out; simp; omega))
        have Ez3 := jh (Ez3.out.grown hgm (by have := HO.out; simp; omega))
        have EA := jh (EA.out.grown hgm (by have := HO.out; simp; omega))
        have EAA := jh (EAA.out.grown hgm (by have := HO.out; simp; omega))
        have EBb := jh (EBb.out.grown hgm (by have := HO.out; simp; omega))
        have EBB := jh (EBB.out.grown hgm (by have := HO.out; simp; omega))
        have EEe := jh (EEe.out.grown hgm (by have := HO.out; simp; omega))
        have EDA := jh (EDA.out.grown hgm (by have := HO.out; simp; omega))
        have ECB := jh (ECB.out.grown hgm (by have := HO.out; simp; omega))
        have ES := jh (ES.out.grown hgm (by have := HO.out; simp; omega))
        have EDd := jh (EDd.out.grown hgm (by have := HO.out; simp; omega))
        have HK := jh (HK.out.grown hgm (by have := HO.out; simp; omega))
        have HR := jh (HR.out.grown hgm (by have := HO.out; simp; omega))
        have HE := jh (zae HE.out hgm (by have := HO.out; omega))
        have Ez2 := jh hEl
        clear hEl hX hgm
        generalize wc = wl126 at *
        obtain ⟨zx2, lx2, bx2, ex2⟩ := Ex2.out
        have Hbx2 := jh bx2
        have Hex2 := jh ex2
        have Hlx2 := jh lx2
        have Hix2 := jh (zam lx2)
        clear bx2 ex2 lx2
        obtain ⟨zx3, lx3, bx3, ex3⟩ := Ex3.out
        have Hbx3 := jh bx3
        have Hex3 := jh ex3
        have Hlx3 := jh lx3
        have Hix3 := jh (zam lx3)
        clear bx3 ex3 lx3
        have HL1 : Hid ((ints .i64 zx3).length = (ints .i64 zx2).length) := jh (by rw [zad, zad, Hlx2.out, Hlx3.out])
        have HL2 : Hid ((ints .i64 zx2).length = (ints .i64 zx3).length) := jh (by rw [zad, zad, Hlx2.out, Hlx3.out])
        go_upto_region 30 with (first | (refine zab rfl _ _ rfl Tx2 rfl _ _ _ _ Hbx2.out Tryz.underlying75 Hix2.out ?_) | (refine zab rfl _ _ rfl Tx3 rfl _ _ _ _ Hbx3.out Tryz.underlying75 Hix3.out ?_) | (refine zac rfl _ _ _ rfl Tx2 (ints .i64 zx3) rfl rfl _ _ Hbx2.out HL1.out Hix3.out (zai _ _) ?_; intro wl127 hbm hgm; have HB1 := jh (Hbx3.out.grown hgm (by have := HO.out; simp; omega)); have HG1 := jh hgm; have HN1 := jh hbm; clear hbm hgm) | (refine zac rfl _ _ _ rfl Tx3 (ints .i64 zx2) rfl rfl _ _ HB1.out HL2.out Hix2.out (zai _ _) ?_; intro wl128 hbm hgm))
        have Ex1 := jh ((Ex1.out.grown HG1.out (by have := HO.out; simp; omega)).grown hgm (by have := HO.out; simp; omega))
        have Ez2 := jh ((Ez2.out.grown HG1.out (by have := HO.out; simp; omega)).grown hgm (by have := HO.out; simp; omega))
        have Ez3 := jh ((Ez3.out.grown HG1.out (by have := HO.out; simp; omega)).grown hgm (by have := HO.out; simp; omega))
        have EA := jh ((EA.out.grown HG1.out (by have := HO.out; simp; omega)).grown hgm (by have := HO.out; simp; omega))
        have EAA := jh ((EAA.out.grown HG1.out (by have := HO.out; simp; omega)).grown hgm (by have := HO.out; simp; omega))
        have EBb := jh ((EBb.out.grown HG1.out (by have := HO.out; simp; omega)).grown hgm (by have := HO.out; simp; omega))
        have EBB := jh ((EBB.out.grown HG1.out (by have := HO.out; simp; omega)).grown hgm (by have := HO.out; simp; omega))
        have EEe := jh ((EEe.out.grown HG1.out (by have := HO.out; simp; omega)).grown hgm (by have := HO.out; simp; omega))
        have EDA := jh ((EDA.out.grown HG1.out (by have := HO.out; simp; omega)).grown hgm (by have := HO.out; simp; omega))
        have ECB := jh ((ECB.out.grown HG1.out (by have := HO.out; simp; omega)).grown hgm (by have := HO.out; simp; omega))
        have ES := jh ((ES.out.grown HG1.out (by have := HO.out; simp; omega)).grown hgm (by have := HO.out; simp; omega))
        have EDd := jh ((EDd.out.grown HG1.out (by have := HO.out; simp; omega)).grown hgm (by have := HO.out; simp; omega))
        have HK := jh ((HK.out.grown HG1.out (by have := HO.out; simp; omega)).grown hgm (by have := HO.out; simp; omega))
        have HR := jh ((HR.out.grown HG1.out (by have := HO.out; simp; omega)).grown hgm (by have := HO.out; simp; omega))
        have HE := jh (zae (zae HE.out HG1.out (by have := HO.out; omega)) hgm (by have := HO.out; omega))
        have Ex2 : Hid (ElB wl128 Tx2 ((((s.x2 - s.z2) * (s.x3 + s.z3)) + ((s.x2 + s.z2) * (s.x3 - s.z3))) * (((s.x2 - s.z2) * (s.x3 + s.z3)) + ((s.x2 + s.z2) * (s.x3 - s.z3))))) := jh ⟨zx3, Hlx3.out, HN1.out.grown hgm (by have := HO.out; simp; omega), Hex3.out⟩
        have Ex3 : Hid (ElB wl128 Tx3 (((s.x3 + s.z3) * (s.x3 + s.z3)) * ((s.x3 - s.z3) * (s.x3 - s.z3)))) := jh ⟨zx2, Hlx2.out, hbm, Hex2.out⟩
        clear hbm hgm HG1 HN1 HB1 HL1 HL2
        obtain ⟨zz2, lz2, bz2, ez2⟩ := Ez2.out
        have Hbz2 := jh bz2
        have Hez2 := jh ez2
        have Hlz2 := jh lz2
        have Hiz2 := jh (zam lz2)
        clear bz2 ez2 lz2
        obtain ⟨zz3, lz3, bz3, ez3⟩ := Ez3.out
        have Hbz3 := jh bz3
        have Hez3 := jh ez3
        have Hlz3 := jh lz3
        have Hiz3 := jh (zam lz3)
        clear bz3 ez3 lz3
        have HL1 : Hid ((ints .i64 zz3).length = (ints .i64 zz2).length) := jh (by rw [zad, zad, Hlz2.out, Hlz3.out])
        have HL2 : Hid ((ints .i64 zz2).length = (ints .i64 zz3).length) := jh (by rw [zad, zad, Hlz2.out, Hlz3.out])
        go_wp2_with (first | (refine zab rfl _ _ rfl Tz2 rfl _ _ _ _ Hbz2.out Tryz.underlying75 Hiz2.out ?_) | (refine zab rfl _ _ rfl Tz3 rfl _ _ _ _ Hbz3.out Tryz.underlying75 Hiz3.out ?_) | (refine zac rfl _ _ _ rfl Tz2 (ints .i64 zz3) rfl rfl _ _ Hbz2.out HL1.out Hiz3.out (zai _ _) ?_; intro wl129 hbm hgm; have HB1 := jh (Hbz3.out.grown hgm (by have := HO.out; simp; omega)); have HG1 := jh hgm; have HN1 := jh hbm; clear hbm hgm) | (refine zac rfl _ _ _ rfl Tz3 (ints .i64 zz2) rfl rfl _ _ HB1.out HL2.out Hiz2.out (zai _ _) ?_; intro wl130 hbm hgm))
        have Ex1 := jh ((Ex1.out.grown HG1.out (by have := HO.out; simp; omega)).grown hgm (by have := HO.out; simp; omega))
        have Ex2 := jh ((Ex2.out.grown HG1.out (by have := HO.out; simp; omega)).grown hgm (by have := HO.out; simp; omega))
        have Ex3 := jh ((Ex3.out.grown HG1.out (by have := HO.out; simp; omega)).grown hgm (by have := HO.out; simp; omega))
        have EA := jh ((EA.out.grown HG1.out (by have := HO.out; simp; omega)).grown hgm (by have := HO.out; simp; omega))
        have EAA := jh ((EAA.out.grown HG1.out (by have := HO.out; simp; omega)).grown hgm (by have := HO.out; simp; omega))
        have EBb := jh ((EBb.out.grown HG1.out (by have := HO.out; simp; omega)).grown hgm (by have := HO.out; simp; omega))
        have EBB := jh ((EBB.out.grown HG1.out (by have := HO.out; simp; omega)).grown hgm (by have := HO.out; simp; omega))
        have EEe := jh ((EEe.out.grown HG1.out (by have := HO.out; simp; omega)).grown hgm (by have := HO.out; simp; omega))
        have EDA := jh ((EDA.out.grown HG1.out (by have := HO.out; simp; omega)).grown hgm (by have := HO.out; simp; omega))
        have ECB := jh ((ECB.out.grown HG1.out (by have := HO.out; simp; omega)).grown hgm (by have := HO.out; simp; omega))
        have ES := jh ((ES.out.grown HG1.out (by have := HO.out; simp; omega)).grown hgm (by have := HO.out; simp; omega))
        have EDd := jh ((EDd.out.grown HG1.out (by have := HO.out; simp; omega)).grown hgm (by have := HO.out; simp; omega))
        have HK := jh ((HK.out.grown HG1.out (by have := HO.out; simp; omega)).grown hgm (by have := HO.out; simp; omega))
        have HR := jh ((HR.out.grown HG1.out (by have := HO.out; simp; omega)).grown hgm (by have := HO.out; simp; omega))
        have HE := jh (zae (zae HE.out HG1.out (by have := HO.out; omega)) hgm (by have := HO.out; omega))
        have Ez2 : Hid (ElB wl130 Tz2 (x1f * ((((s.x2 - s.z2) * (s.x3 + s.z3)) - ((s.x2 + s.z2) * (s.x3 - s.z3))) * (((s.x2 - s.z2) * (s.x3 + s.z3)) - ((s.x2 + s.z2) * (s.x3 - s.z3)))))) := jh ⟨zz3, Hlz3.out, HN1.out.grown hgm (by have := HO.out; simp; omega), Hez3.out⟩
        have Ez3 : Hid (ElB wl130 Tz3 ((((s.x3 + s.z3) * (s.x3 + s.z3)) - ((s.x3 - s.z3) * (s.x3 - s.z3))) * (((s.x3 + s.z3) * (s.x3 + s.z3)) + fp 121665 * (((s.x3 + s.z3) * (s.x3 + s.z3)) - ((s.x3 - s.z3) * (s.x3 - s.z3)))))) := jh ⟨zz2, Hlz2.out, hbm, Hez2.out⟩
        clear hbm hgm HG1 HN1 HB1 HL1 HL2
        go_roundw
        case rel => exact ⟨k + 1, by omega, by go_num, Ex1.out, (by rw [HG.out]; exact Ex2.out), (by rw [HG.out]; exact Ez2.out), (by rw [HG.out]; exact Ex3.out), (by rw [HG.out]; have h := Ez3.out; rw [fp_lit] at h; exact h), HK.out, HR.out, HE.out⟩
        case measure => simp [intOf]; omega
   ·have hb0 : leN cl / 2 ^ (254 - k) % 2 = 0 := by omega
    have hq : bits .and .u8 ((bt : Int) / 2 ^ ((254 - k) % 8)) 1 = 0 := by
     rw [hcast, andU1, ← hbit, hb0]
     rfl
    have HG : Hid (lrun x1f (leN cl) (k + 1) = s.step x1f) := jh (by
     rw [lrun, htb, ← hs]
     simp only [hb1, decide_true, decide_false]
     rfl)
    clear hbit hcast htb hbt hb1 hb0
    go_upto_region 15 with (fail)
    clear hq e1 s1 s2 s3 s4 s5 s6 hs
    obtain ⟨zx2, lx2, bx2, ex2⟩ := Ex2.out
    have Hbx2 := jh bx2
    have Hex2 := jh ex2
    have Hlx2 := jh lx2
    have Hix2 := jh (zam lx2)
    clear bx2 ex2 lx2
    obtain ⟨zz2, lz2, bz2, ez2⟩ := Ez2.out
    have Hbz2 := jh bz2
    have Hez2 := jh ez2
    have Hlz2 := jh lz2
    have Hiz2 := jh (zam lz2)
    clear bz2 ez2 lz2
    go_wp2_with (first | (refine zab rfl _ _ rfl Tx2 rfl _ _ _ _ Hbx2.out Tryz.underlying75 Hix2.out ?_) | (refine zab rfl _ _ rfl Tz2 rfl _ _ _ _ Hbz2.out Tryz.underlying75 Hiz2.out ?_))
    refine (radd_f wr Hex2.out Hez2.out).mono ?_
    rintro e wl1 ⟨r, rfl, hr, hb⟩
    obtain ⟨z, hz, lz⟩ := hr.form
    subst hz
    have Ex1 := jh (Ex1.out.ext hb)
    have Ex2 := jh (Ex2.out.ext hb)
    have Ez2 := jh (Ez2.out.ext hb)
    have Ex3 := jh (Ex3.out.ext hb)
    have Ez3 := jh (Ez3.out.ext hb)
    have HK := jh (zaa HK.out hb)
    have HR := jh (zaa HR.out hb)
    have HE := jh (HE.out.trans hb)
    clear hb
    have HZ := jh (Blk.made wl1 (ints .i64 (List.replicate 16 0)) 75)
    have HEA := jh (Ext.alloc wl1 (.cells (ints .i64 (List.replicate 16 0)).toArray 75))
    have HI := jh (zam lz)
    have HL : Hid ((ints .i64 z).length = (ints .i64 (List.replicate 16 0)).length) := jh (by rw [zad, lz]; rfl)
    go_upto_region 16 with (refine zac rfl _ _ _ rfl wl1.heap.size (ints .i64 z) rfl rfl _ _ HZ.out HL.out HI.out (zai _ _) ?_; intro wl2 hbm hgm)
    have HX := jh (zae HEA.out hgm (Nat.le_refl _))
    obtain ⟨TA, hT⟩ : ∃ T, T = wl1.heap.size := ⟨_, rfl⟩
    have HTA : Hid (Tz3 < TA) := jh (by rw [hT]; exact Ez3.out.lt)
    rw [← hT] at hbm ⊢
    have Ex1 := jh (Ex1.out.ext HX.out)
    have Ex2 := jh (Ex2.out.ext HX.out)
    have Ez2 := jh (Ez2.out.ext HX.out)
    have Ex3 := jh (Ex3.out.ext HX.out)
    have Ez3 := jh (Ez3.out.ext HX.out)
    have HK := jh (zaa HK.out HX.out)
    have HR := jh (zaa HR.out HX.out)
    have HE := jh (HE.out.trans HX.out)
    have EA : Hid (ElB wl2 TA (s.x2 + s.z2)) := jh ⟨z, lz, hbm, hr⟩
    have HO := jh (And.intro HO.out HTA.out)
    clear hbm hgm HZ HEA HX hT hr HI HL lz
    obtain ⟨zA, lA, bA, eA⟩ := EA.out
    have HbA := jh bA
    have HeA := jh eA
    have HlA := jh lA
    have HiA := jh (zam lA)
    clear bA eA lA
    go_wp2_with (first | (refine zab rfl _ _ rfl TA rfl _ _ _ _ HbA.out Tryz.underlying75 HiA.out ?_))
    refine (zco wl2 HeA.out HeA.out).mono ?_
    rintro e wl3 ⟨r, rfl, hr, hb⟩
    obtain ⟨z, hz, lz⟩ := hr.form
    subst hz
    have Ex1 := jh (Ex1.out.ext hb)
    have Ex2 := jh (Ex2.out.ext hb)
    have Ez2 := jh (Ez2.out.ext hb)
    have Ex3 := jh (Ex3.out.ext hb)
    have Ez3 := jh (Ez3.out.ext hb)
    have EA := jh (EA.out.ext hb)
    have HK := jh (zaa HK.out hb)
    have HR := jh (zaa HR.out hb)
    have HE := jh (HE.out.trans hb)
    clear hb
    have HZ := jh (Blk.made wl3 (ints .i64 (List.replicate 16 0)) 75)
    have HEA := jh (Ext.alloc wl3 (.cells (ints .i64 (List.replicate 16 0)).toArray 75))
    have HI := jh (zam lz)
    have HL : Hid ((ints .i64 z).length = (ints .i64 (List.replicate 16 0)).length) := jh (by rw [zad, lz]; rfl)
    go_upto_region 17 with (refine zac rfl _ _ _ rfl wl3.heap.size (ints .i64 z) rfl rfl _ _ HZ.out HL.out HI.out (zai _ _) ?_; intro wl4 hbm hgm)
    have HX := jh (zae HEA.out hgm (Nat.le_refl _))
    obtain ⟨TAA, hT⟩ : ∃ T, T = wl3.heap.size := ⟨_, rfl⟩
    have HTAA : Hid (TA < TAA) := jh (by rw [hT]; exact EA.out.lt)
    rw [← hT] at hbm ⊢
    have Ex1 := jh (Ex1.out.ext HX.out)
    have Ex2 := jh (Ex2.out.ext HX.out)
    have Ez2 := jh (Ez2.out.ext HX.out)
    have Ex3 := jh (Ex3.out.ext HX.out)
    have Ez3 := jh (Ez3.out.ext HX.out)
    have EA := jh (EA.out.ext HX.out)
    have HK := jh (zaa HK.out HX.out)
    have HR := jh (zaa HR.out HX.out)
    have HE := jh (HE.out.trans HX.out)
    have EAA : Hid (ElB wl4 TAA ((s.x2 + s.z2) * (s.x2 + s.z2))) := jh ⟨z, lz, hbm, hr⟩
    have HO := jh (And.intro HO.out HTAA.out)
    clear hbm hgm HZ HEA HX hT hr HI HL lz
    obtain ⟨zx2, lx2, bx2, ex2⟩ := Ex2.out
    have Hbx2 := jh bx2
    have Hex2 := jh ex2
    have Hlx2 := jh lx2
    have Hix2 := jh (zam lx2)
    clear bx2 ex2 lx2
    obtain ⟨zz2, lz2, bz2, ez2⟩ := Ez2.out
    have Hbz2 := jh bz2
    have Hez2 := jh ez2
    have Hlz2 := jh lz2
    have Hiz2 := jh (zam lz2)
    clear bz2 ez2 lz2
    go_wp2_with (first | (refine zab rfl _ _ rfl Tx2 rfl _ _ _ _ Hbx2.out Tryz.underlying75 Hix2.out ?_) | (refine zab rfl _ _ rfl Tz2 rfl _ _ _ _ Hbz2.out Tryz.underlying75 Hiz2.out ?_))
    refine (rsub_f wl4 Hex2.out Hez2.out).mono ?_
    rintro e wl5 ⟨r, rfl, hr, hb⟩
    obtain ⟨z, hz, lz⟩ := hr.form
    subst hz
    have Ex1 := jh (Ex1.out.ext hb)
    have Ex2 := jh (Ex2.out.ext hb)
    have Ez2 := jh (Ez2.out.ext hb)
    have Ex3 := jh (Ex3.out.ext hb)
    have Ez3 := jh (Ez3.out.ext hb)
    have EA := jh (EA.out.ext hb)
    have EAA := jh (EAA.out.ext hb)
    have HK := jh (zaa HK.out hb)
    have HR := jh (zaa HR.out hb)
    have HE := jh (HE.out.trans hb)
    clear hb
    have HZ := jh (Blk.made wl5 (ints .i64 (List.replicate 16 0)) 75)
    have HEA := jh (Ext.alloc wl5 (.cells (ints .i64 (List.replicate 16 0)).toArray 75))
    have HI := jh (zam lz)
    have HL : Hid ((ints .i64 z).length = (ints .i64 (List.replicate 16 0)).length) := jh (by rw [zad, lz]; rfl)
    go_upto_region 18 with (refine zac rfl _ _ _ rfl wl5.heap.size (ints .i64 z) rfl rfl _ _ HZ.out HL.out HI.out (zai _ _) ?_; intro wl6 hbm hgm)
    have HX := jh (zae HEA.out hgm (Nat.le_refl _))
    obtain ⟨TBb, hT⟩ : ∃ T, T = wl5.heap.size := ⟨_, rfl⟩
    have HTBb : Hid (TAA < TBb) := jh (by rw [hT]; exact EAA.out.lt)
    rw [← hT] at hbm ⊢
    have Ex1 := jh (Ex1.out.ext HX.out)
    have Ex2 := jh (Ex2.out.ext HX.out)
    have Ez2 := jh (Ez2.out.ext HX.out)
    have Ex3 := jh (Ex3.out.ext HX.out)
    have Ez3 := jh (Ez3.out.ext HX.out)
    have EA := jh (EA.out.ext HX.out)
    have EAA := jh (EAA.out.ext HX.out)
    have HK := jh (zaa HK.out HX.out)
    have HR := jh (zaa HR.out HX.out)
    have HE := jh (HE.out.trans HX.out)
    have EBb : Hid (ElB wl6 TBb (s.x2 - s.z2)) := jh ⟨z, lz, hbm, hr⟩
    have HO := jh (And.intro HO.out HTBb.out)
    clear hbm hgm HZ HEA HX hT hr HI HL lz
    obtain ⟨zBb, lBb, bBb, eBb⟩ := EBb.out
    have HbBb := jh bBb
    have HeBb := jh eBb
    have HlBb := jh lBb
    have HiBb := jh (zam lBb)
    clear bBb eBb lBb
    go_wp2_with (first | (refine zab rfl _ _ rfl TBb rfl _ _ _ _ HbBb.out Tryz.underlying75 HiBb.out ?_))
    refine (zco wl6 HeBb.out HeBb.out).mono ?_
    rintro e wl7 ⟨r, rfl, hr, hb⟩
    obtain ⟨z, hz, lz⟩ := hr.form
    subst hz
    have Ex1 := jh (Ex1.out.ext hb)
    have Ex2 := jh (Ex2.out.ext hb)
    have Ez2 := jh (Ez2.out.ext hb)
    have Ex3 := jh (Ex3.out.ext hb)
    have Ez3 := jh (Ez3.out.ext hb)
    have EA := jh (EA.out.ext hb)
    have EAA := jh (EAA.out.ext hb)
    have EBb := jh (EBb.out.ext hb)
    have HK := jh (zaa HK.out hb)
    have HR := jh (zaa HR.out hb)
    have HE := jh (HE.out.trans hb)
    clear hb
    have HZ := jh (Blk.made wl7 (ints .i64 (List.replicate 16 0)) 75)
    have HEA := jh (Ext.alloc wl7 (.cells (ints .i64 (List.replicate 16 0)).toArray 75))
    have HI := jh (zam lz)
    have HL : Hid ((ints .i64 z).length = (ints .i64 (List.replicate 16 0)).length) := jh (by rw [zad, lz]; rfl)
    go_upto_region 19 with (refine zac rfl _ _ _ rfl wl7.heap.size (ints .i64 z) rfl rfl _ _ HZ.out HL.out HI.out (zai _ _) ?_; intro wl8 hbm hgm)
    have HX := jh (zae HEA.out hgm (Nat.le_refl _))
    obtain ⟨TBB, hT⟩ : ∃ T, T = wl7.heap.size := ⟨_, rfl⟩
    have HTBB : Hid (TBb < TBB) := jh (by rw [hT]; exact EBb.out.lt)
    rw [← hT] at hbm ⊢
    have Ex1 := jh (Ex1.out.ext HX.out)
    have Ex2 := jh (Ex2.out.ext HX.out)
    have Ez2 := jh (Ez2.out.ext HX.out)
    have Ex3 := jh (Ex3.out.ext HX.out)
    have Ez3 := jh (Ez3.out.ext HX.out)
    have EA := jh (EA.out.ext HX.out)
    have EAA := jh (EAA.out.ext HX.out)
    have EBb := jh (EBb.out.ext HX.out)
    have HK := jh (zaa HK.out HX.out)
    have HR := jh (zaa HR.out HX.out)
    have HE := jh (HE.out.trans HX.out)
    have EBB : Hid (ElB wl8 TBB ((s.x2 - s.z2) * (s.x2 - s.z2))) := jh ⟨z, lz, hbm, hr⟩
    have HO := jh (And.intro HO.out HTBB.out)
    clear hbm hgm HZ HEA HX hT hr HI HL lz
    obtain ⟨zAA, lAA, bAA, eAA⟩ := EAA.out
    have HbAA := jh bAA
    have HeAA := jh eAA
    have HlAA := jh lAA
    have HiAA := jh (zam lAA)
    clear bAA eAA lAA
    obtain ⟨zBB, lBB, bBB, eBB⟩ := EBB.out
    have HbBB := jh bBB
    have HeBB := jh eBB
    have HlBB := jh lBB
    have HiBB := jh (zam lBB)
    clear bBB eBB lBB
    go_wp2_with (first | (refine zab rfl _ _ rfl TAA rfl _ _ _ _ HbAA.out Tryz.underlying75 HiAA.out ?_) | (refine zab rfl _ _ rfl TBB rfl _ _ _ _ HbBB.out Tryz.underlying75 HiBB.out ?_))
    refine (rsub_f wl8 HeAA.out HeBB.out).mono ?_
    rintro e wl9 ⟨r, rfl, hr, hb⟩
    obtain ⟨z, hz, lz⟩ := hr.form
    subst hz
    have Ex1 := jh (Ex1.out.ext hb)
    have Ex2 := jh (Ex2.out.ext hb)
    have Ez2 := jh (Ez2.out.ext hb)
    have Ex3 := jh (Ex3.out.ext hb)
    have Ez3 := jh (Ez3.out.ext hb)
    have EA := jh (EA.out.ext hb)
    have EAA := jh (EAA.out.ext hb)
    have EBb := jh (EBb.out.ext hb)
    have EBB := jh (EBB.out.ext hb)
    have HK := jh (zaa HK.out hb)
    have HR := jh (zaa HR.out hb)
    have HE := jh (HE.out.trans hb)
    clear hb
    have HZ := jh (Blk.made wl9 (ints .i64 (List.replicate 16 0)) 75)
    have HEA := jh (Ext.alloc wl9 (.cells (ints .i64 (List.replicate 16 0)).toArray 75))
    have HI := jh (zam lz)
    have HL : Hid ((ints .i64 z).length = (ints .i64 (List.replicate 16 0)).length) := jh (by rw [zad, lz]; rfl)
    go_upto_region 20 with (refine zac rfl _ _ _ rfl wl9.heap.size (ints .i64 z) rfl rfl _ _ HZ.out HL.out HI.out (zai _ _) ?_; intro wl10 hbm hgm)
    have HX := jh (zae HEA.out hgm (Nat.le_refl _))
    obtain ⟨TEe, hT⟩ : ∃ T, T = wl9.heap.size := ⟨_, rfl⟩
    have HTEe : Hid (TBB < TEe) := jh (by rw [hT]; exact EBB.out.lt)
    rw [← hT] at hbm ⊢
    have Ex1 := jh (Ex1.out.ext HX.out)
    have Ex2 := jh (Ex2.out.ext HX.out)
    have Ez2 := jh (Ez2.out.ext HX.out)
    have Ex3 := jh (Ex3.out.ext HX.out)
    have Ez3 := jh (Ez3.out.ext HX.out)
    have EA := jh (EA.out.ext HX.out)
    have EAA := jh (EAA.out.ext HX.out)
    have EBb := jh (EBb.out.ext HX.out)
    have EBB := jh (EBB.out.ext HX.out)
    have HK := jh (zaa HK.out HX.out)
    have HR := jh (zaa HR.out HX.out)
    have HE := jh (HE.out.trans HX.out)
    have EEe : Hid (ElB wl10 TEe (((s.x2 + s.z2) * (s.x2 + s.z2)) - ((s.x2 - s.z2) * (s.x2 - s.z2)))) := jh ⟨z, lz, hbm, hr⟩
    have HO := jh (And.intro HO.out HTEe.out)
    clear hbm hgm HZ HEA HX hT hr HI HL lz
    obtain ⟨zx3, lx3, bx3, ex3⟩ := Ex3.out
    have Hbx3 := jh bx3
    have Hex3 := jh ex3
    have Hlx3 := jh lx3
    have Hix3 := jh (zam lx3)
    clear bx3 ex3 lx3
    obtain ⟨zz3, lz3, bz3, ez3⟩ := Ez3.out
    have Hbz3 := jh bz3
    have Hez3 := jh ez3
    have Hlz3 := jh lz3
    have Hiz3 := jh (zam lz3)
    clear bz3 ez3 lz3
    obtain ⟨zA, lA, bA, eA⟩ := EA.out
    have HbA := jh bA
    have HeA := jh eA
    have HlA := jh lA
    have HiA := jh (zam lA)
    clear bA eA lA
    go_wp2_with fail
    try simp only [Act.put, nrm]
    go_cut [17] from 67 to 71 (fun vq wq => ∃ g, vq = .pointer (some ⟨g, 0, none⟩) ∧ wl10.heap.size ≤ g ∧ ElB wq g ((s.x3 - s.z3) * (s.x2 + s.z2)) ∧ Ext wl10 wq)
    case first =>
     have B0 : Ext wl10 wl10.drew := Ext.drew _
     refine wp_region_held_drew (S := fun w' => Ext wl10 w') (by kernel_rfl) B0 (fun hHeld => ?_)
     refine tke 0 (.agg (ints .i64 zx3).toArray) rfl (yieldsIf_load_mid (by rfl) _ _ rfl Tx3 0 rfl _ _ (fun w h => zbl Hbx3.out h) Tryz.underlying75 rfl Hix3.out) hHeld ?_
     simp only [Act.put, nrm]
     refine tke 1 (.agg (ints .i64 zz3).toArray) rfl (yieldsIf_load_mid (by rfl) _ _ rfl Tz3 0 rfl _ _ (fun w h => zbl Hbz3.out h) Tryz.underlying75 rfl Hiz3.out) hHeld ?_
     simp only [Act.put, nrm]
     refine tke 3 (.agg (ints .i64 zA).toArray) rfl (yieldsIf_load_mid (by rfl) _ _ rfl TA 0 rfl _ _ (fun w h => zbl HbA.out h) Tryz.underlying75 rfl HiA.out) hHeld ?_
     simp only [Act.put, nrm]
     refine wpAnyH_ready (rs := [2, 5]) (by kernel_rfl) (by simp) (AllReadyH.cons rfl (fun K hK => ?_) (AllReadyH.cons rfl (fun K hK => ?_) AllReadyH.nil))
     ·go_simp
      refine (rsub_f _ Hex3.out Hez3.out).mono ?_
      rintro e m1 ⟨v1, rfl, e1, b1⟩
      obtain ⟨z1, hz1, l1⟩ := e1.form
      subst hz1
      have N1 : Ext wl10 m1 := B0.trans b1
      refine hK.out _ _ N1 (fun hHeld => ?_)
      clear hK K
      try simp only [Act.put, nrm]
      refine wpAnyH_ready (rs := [4, 5]) (by kernel_rfl) (by simp) (AllReadyH.cons rfl (fun K hK => ?_) (AllReadyH.cons rfl (fun K hK => ?_) AllReadyH.nil))
      ·go_simp
       refine (zco _ e1 HeA.out).mono ?_
       rintro e m2 ⟨v2, rfl, e2, b2⟩
       obtain ⟨z2, hz2, l2⟩ := e2.form
       subst hz2
       have N2 : Ext wl10 m2 := N1.trans b2
       refine hK.out _ _ N2 (fun hHeld => ?_)
       clear hK K
       try simp only [Act.put, nrm]
       refine rdy 5 rfl fun K hK => ?_
       refine zaw (by rfl) ?_
       refine zby (some 17) _ (ints .i64 (List.replicate 16 0)) rfl rfl Tryz.zeroValue75 ?_
       obtain ⟨m3, hm3⟩ : ∃ wNew, wNew = World.alloc m2 (.cells ((ints .i64 (List.replicate 16 0))).toArray 75) := ⟨_, rfl⟩
       rw [← hm3]
       have b3 : Ext m2 m3 := by rw [hm3]; exact Ext.alloc _ _
       obtain ⟨g3, hg3⟩ : ∃ gNew, gNew = (m2).heap.size := ⟨_, rfl⟩
       rw [← hg3]
       have z3 : Blk m3 g3 (ints .i64 (List.replicate 16 0)) 75 := by rw [hm3, hg3]; exact Blk.made _ _ _
       have l3 : (wl10).heap.size ≤ g3 := by rw [hg3]; exact N2.size
       clear hm3 hg3
       have N3 : Ext wl10 m3 := N2.trans b3
       refine hK.out _ _ N3 (fun hHeld => ?_)
       clear hK K
       try simp only [Act.put, nrm]
       refine rdy 6 rfl fun K hK => ?_
       refine zaw (by rfl) ?_
       refine zau _ _ _ rfl g3 (ints .i64 z2) rfl rfl _ _ z3 (by rw [zad, l2]; rfl) (zam l2) (zai _ _) ?_
       intro m4 hb4 hg4
       have N4 : Ext wl10 m4 := zae N3 hg4 l3
       refine hK.out _ _ N4 (fun hHeld => ?_)
       clear hK K
       try simp only [Act.put, nrm]
       refine dne ?_
       go_wp2_with fail
       go_meet
       exact ⟨_, rfl, l3, ⟨z2, l2, hb4, e2⟩, N4⟩
      ·refine zaw (by rfl) ?_
       refine zby (some 17) _ (ints .i64 (List.replicate 16 0)) rfl rfl Tryz.zeroValue75 ?_
       obtain ⟨m2, hm2⟩ : ∃ wNew, wNew = World.alloc m1 (.cells ((ints .i64 (List.replicate 16 0))).toArray 75) := ⟨_, rfl⟩
       rw [← hm2]
       have b2 : Ext m1 m2 := by rw [hm2]; exact Ext.alloc _ _
       obtain ⟨g2, hg2⟩ : ∃ gNew, gNew = (m1).heap.size := ⟨_, rfl⟩
       rw [← hg2]
       have z2 : Blk m2 g2 (ints .i64 (List.replicate 16 0)) 75 := by rw [hm2, hg2]; exact Blk.made _ _ _
       have l2 : (wl10).heap.size ≤ g2 := by rw [hg2]; exact N1.size
       clear hm2 hg2
       have N2 : Ext wl10 m2 := N1.trans b2
       refine hK.out _ _ N2 (fun hHeld => ?_)
       clear hK K
       try simp only [Act.put, nrm]
       refine rdy 4 rfl fun K hK => ?_
       go_simp
       refine (zco _ e1 HeA.out).mono ?_
       rintro e m3 ⟨v3, rfl, e3, b3⟩
       obtain ⟨z3, hz3, l3⟩ := e3.form
       subst hz3
       have z2 := z2.below b3
       have N3 : Ext wl10 m3 := N2.trans b3
       refine hK.out _ _ N3 (fun hHeld => ?_)
       clear hK K
       try simp only [Act.put, nrm]
       refine rdy 6 rfl fun K hK => ?_
       refine zaw (by rfl) ?_
       refine zau _ _ _ rfl g2 (ints .i64 z3) rfl rfl _ _ z2 (by rw [zad, l3]; rfl) (zam l3) (zai _ _) ?_
       intro m4 hb4 hg4
       have N4 : Ext wl10 m4 := zae N3 hg4 l2
       refine hK.out _ _ N4 (fun hHeld => ?_)
       clear hK K
       try simp only [Act.put, nrm]
       refine dne ?_
       go_wp2_with fail
       go_meet
       exact ⟨_, rfl, l2, ⟨z3, l3, hb4, e3⟩, N4⟩
     ·refine zaw (by rfl) ?_
      refine zby (some 17) _ (ints .i64 (List.replicate 16 0)) rfl rfl Tryz.zeroValue75 ?_
      obtain ⟨m1, hm1⟩ : ∃ wNew, wNew = World.alloc wl10.drew (.cells ((ints .i64 (List.replicate 16 0))).toArray 75) := ⟨_, rfl⟩
      rw [← hm1]
      have b1 : Ext wl10.drew m1 := by rw [hm1]; exact Ext.alloc _ _
      obtain ⟨g1, hg1⟩ : ∃ gNew, gNew = (wl10.drew).heap.size := ⟨_, rfl⟩
      rw [← hg1]
      have z1 : Blk m1 g1 (ints .i64 (List.replicate 16 0)) 75 := by rw [hm1, hg1]; exact Blk.made _ _ _
      have l1 : (wl10).heap.size ≤ g1 := by rw [hg1]; exact B0.size
      clear hm1 hg1
      have N1 : Ext wl10 m1 := B0.trans b1
      refine hK.out _ _ N1 (fun hHeld => ?_)
      clear hK K
      try simp only [Act.put, nrm]
      refine rdy 2 rfl fun K hK => ?_
      go_simp
      refine (rsub_f _ Hex3.out Hez3.out).mono ?_
      rintro e m2 ⟨v2, rfl, e2, b2⟩
      obtain ⟨z2, hz2, l2⟩ := e2.form
      subst hz2
      have z1 := z1.below b2
      have N2 : Ext wl10 m2 := N1.trans b2
      refine hK.out _ _ N2 (fun hHeld => ?_)
      clear hK K
      try simp only [Act.put, nrm]
      refine rdy 4 rfl fun K hK => ?_
      go_simp
      refine (zco _ e2 HeA.out).mono ?_
      rintro e m3 ⟨v3, rfl, e3, b3⟩
      obtain ⟨z3, hz3, l3⟩ := e3.form
      subst hz3
      have z1 := z1.below b3
      have N3 : Ext wl10 m3 := N2.trans b3
      refine hK.out _ _ N3 (fun hHeld => ?_)
      clear hK K
      try simp only [Act.put, nrm]
      refine rdy 6 rfl fun K hK => ?_
      refine zaw (by rfl) ?_
      refine zau _ _ _ rfl g1 (ints .i64 z3) rfl rfl _ _ z1 (by rw [zad, l3]; rfl) (zam l3) (zai _ _) ?_
      intro m4 hb4 hg4
      have N4 : Ext wl10 m4 := zae N3 hg4 l1
      refine hK.out _ _ N4 (fun hHeld => ?_)
      clear hK K
      try simp only [Act.put, nrm]
      refine dne ?_
      go_wp2_with fail
      go_meet
      exact ⟨_, rfl, l1, ⟨z3, l3, hb4, e3⟩, N4⟩
    case rest =>
     obtain ⟨TDA, rfl, hTg, hEl, hX⟩ := hcut
     have HTDA : Hid (TEe < TDA) := jh (Nat.lt_of_lt_of_le EEe.out.lt hTg)
     have Ex1 := jh (Ex1.out.ext hX)
     have Ex2 := jh (Ex2.out.ext hX)
     have Ez2 := jh (Ez2.out.ext hX)
     have Ex3 := jh (Ex3.out.ext hX)
     have Ez3 := jh (Ez3.out.ext hX)
     have EA := jh (EA.out.ext hX)
     have EAA := jh (EAA.out.ext hX)
     have EBb := jh (EBb.out.ext hX)
     have EBB := jh (EBB.out.ext hX)
     have EEe := jh (EEe.out.ext hX)
     have HK := jh (zaa HK.out hX)
     have HR := jh (zaa HR.out hX)
     have HE := jh (HE.out.trans hX)
     have EDA := jh hEl
     have HO := jh (And.intro HO.out HTDA.out)
     clear hEl hX hTg
     generalize wc = wl11 at *
     go_wp2_with fail
     obtain ⟨zx3, lx3, bx3, ex3⟩ := Ex3.out
     have Hbx3 := jh bx3
     have Hex3 := jh ex3
     have Hlx3 := jh lx3
     have Hix3 := jh (zam lx3)
     clear bx3 ex3 lx3
     obtain ⟨zz3, lz3, bz3, ez3⟩ := Ez3.out
     have Hbz3 := jh bz3
     have Hez3 := jh ez3
     have Hlz3 := jh lz3
     have Hiz3 := jh (zam lz3)
     clear bz3 ez3 lz3
     obtain ⟨zBb, lBb, bBb, eBb⟩ := EBb.out
     have HbBb := jh bBb
     have HeBb := jh eBb
     have HlBb := jh lBb
     have HiBb := jh (zam lBb)
     clear bBb eBb lBb
     go_wp2_with fail
     try simp only [Act.put, nrm]
     go_cut [18] from 72 to 76 (fun vq wq => ∃ g, vq = .pointer (some ⟨g, 0, none⟩) ∧ wl11.heap.size ≤ g ∧ ElB wq g ((s.x3 + s.z3) * (s.x2 - s.z2)) ∧ Ext wl11 wq)
     case first =>
      have B0 : Ext wl11 wl11.drew := Ext.drew _
      refine wp_region_held_drew (S := fun w' => Ext wl11 w') (by kernel_rfl) B0 (fun hHeld => ?_)
      refine tke 0 (.agg (ints .i64 zx3).toArray) rfl (yieldsIf_load_mid (by rfl) _ _ rfl Tx3 0 rfl _ _ (fun w h => zbl Hbx3.out h) Tryz.underlying75 rfl Hix3.out) hHeld ?_
      simp only [Act.put, nrm]
      refine tke 1 (.agg (ints .i64 zz3).toArray) rfl (yieldsIf_load_mid (by rfl) _ _ rfl Tz3 0 rfl _ _ (fun w h => zbl Hbz3.out h) Tryz.underlying75 rfl Hiz3.out) hHeld ?_
      simp only [Act.put, nrm]
      refine tke 3 (.agg (ints .i64 zBb).toArray) rfl (yieldsIf_load_mid (by rfl) _ _ rfl TBb 0 rfl _ _ (fun w h => zbl HbBb.out h) Tryz.underlying75 rfl HiBb.out) hHeld ?_
      simp only [Act.put, nrm]
      refine wpAnyH_ready (rs := [2, 5]) (by kernel_rfl) (by simp) (AllReadyH.cons rfl (fun K hK => ?_) (AllReadyH.cons rfl (fun K hK => ?_) AllReadyH.nil))
      ·go_simp
       refine (radd_f _ Hex3.out Hez3.out).mono ?_
       rintro e m1 ⟨v1, rfl, e1, b1⟩
       obtain ⟨z1, hz1, l1⟩ := e1.form
       subst hz1
       have N1 : Ext wl11 m1 := B0.trans b1
       refine hK.out _ _ N1 (fun hHeld => ?_)
       clear hK K
       try simp only [Act.put, nrm]
       refine wpAnyH_ready (rs := [4, 5]) (by kernel_rfl) (by simp) (AllReadyH.cons rfl (fun K hK => ?_) (AllReadyH.cons rfl (fun K hK => ?_) AllReadyH.nil))
       ·go_simp
        refine (zco _ e1 HeBb.out).mono ?_
        rintro e m2 ⟨v2, rfl, e2, b2⟩
        obtain ⟨z2, hz2, l2⟩ := e2.form
        subst hz2
        have N2 : Ext wl11 m2 := N1.trans b2
        refine hK.out _ _ N2 (fun hHeld => ?_)
        clear hK K
        try simp only [Act.put, nrm]
        refine rdy 5 rfl fun K hK => ?_
        refine zaw (by rfl) ?_
        refine zby (some 18) _ (ints .i64 (List.replicate 16 0)) rfl rfl Tryz.zeroValue75 ?_
        obtain ⟨m3, hm3⟩ : ∃ wNew, wNew = World.alloc m2 (.cells ((ints .i64 (List.replicate 16 0))).toArray 75) := ⟨_, rfl⟩
        rw [← hm3]
        have b3 : Ext m2 m3 := by rw [hm3]; exact Ext.alloc _ _
        obtain ⟨g3, hg3⟩ : ∃ gNew, gNew = (m2).heap.size := ⟨_, rfl⟩
        rw [← hg3]
        have z3 : Blk m3 g3 (ints .i64 (List.replicate 16 0)) 75 := by rw [hm3, hg3]; exact Blk.made _ _ _
        have l3 : (wl11).heap.size ≤ g3 := by rw [hg3]; exact N2.size
        clear hm3 hg3
        have N3 : Ext wl11 m3 := N2.trans b3
        refine hK.out _ _ N3 (fun hHeld => ?_)
        clear hK K
        try simp only [Act.put, nrm]
        refine rdy 6 rfl fun K hK => ?_
        refine zaw (by rfl) ?_
        refine zau _ _ _ rfl g3 (ints .i64 z2) rfl rfl _ _ z3 (by rw [zad, l2]; rfl) (zam l2) (zai _ _) ?_
        intro m4 hb4 hg4
        have N4 : Ext wl11 m4 := zae N3 hg4 l3
        refine hK.out _ _ N4 (fun hHeld => ?_)
        clear hK K
        try simp only [Act.put, nrm]
        refine dne ?_
        go_wp2_with fail
        go_meet
        exact ⟨_, rfl, l3, ⟨z2, l2, hb4, e2⟩, N4⟩
       ·refine zaw (by rfl) ?_
        refine zby (some 18) _ (ints .i64 (List.replicate 16 0)) rfl rfl Tryz.zeroValue75 ?_
        obtain ⟨m2, hm2⟩ : ∃ wNew, wNew = World.alloc m1 (.cells ((ints .i64 (List.replicate 16 0))).toArray 75) := ⟨_, rfl⟩
        rw [← hm2]
        have b2 : Ext m1 m2 := by rw [hm2]; exact Ext.alloc _ _
        obtain ⟨g2, hg2⟩ : ∃ gNew, gNew = (m1).heap.size := ⟨_, rfl⟩
        rw [← hg2]
        have z2 : Blk m2 g2 (ints .i64 (List.replicate 16 0)) 75 := by rw [hm2, hg2]; exact Blk.made _ _ _
        have l2 : (wl11).heap.size ≤ g2 := by rw [hg2]; exact N1.size
        clear hm2 hg2
        have N2 : Ext wl11 m2 := N1.trans b2
        refine hK.out _ _ N2 (fun hHeld => ?_)
        clear hK K
        try simp only [Act.put, nrm]
        refine rdy 4 rfl fun K hK => ?_
        go_simp
        refine (zco _ e1 HeBb.out).mono ?_
        rintro e m3 ⟨v3, rfl, e3, b3⟩
        obtain ⟨z3, hz3, l3⟩ := e3.form
        subst hz3
        have z2 := z2.below b3
        have N3 : Ext wl11 m3 := N2.trans b3
        refine hK.out _ _ N3 (fun hHeld => ?_)
        clear hK K
        try simp only [Act.put, nrm]
        refine rdy 6 rfl fun K hK => ?_
        refine zaw (by rfl) ?_
        refine zau _ _ _ rfl g2 (ints .i64 z3) rfl rfl _ _ z2 (by rw [zad, l3]; rfl) (zam l3) (zai _ _) ?_
        intro m4 hb4 hg4
        have N4 : Ext wl11 m4 := zae N3 hg4 l2
        refine hK.out _ _ N4 (fun hHeld => ?_)
        clear hK K
        try simp only [Act.put, nrm]
        refine dne ?_
        go_wp2_with fail
        go_meet
        exact ⟨_, rfl, l2, ⟨z3, l3, hb4, e3⟩, N4⟩
      ·refine zaw (by rfl) ?_
       refine zby (some 18) _ (ints .i64 (List.replicate 16 0)) rfl rfl Tryz.zeroValue75 ?_
       obtain ⟨m1, hm1⟩ : ∃ wNew, wNew = World.alloc wl11.drew (.cells ((ints .i64 (List.replicate 16 0))).toArray 75) := ⟨_, rfl⟩
       rw [← hm1]
       have b1 : Ext wl11.drew m1 := by rw [hm1]; exact Ext.alloc _ _
       obtain ⟨g1, hg1⟩ : ∃ gNew, gNew = (wl11.drew).heap.size := ⟨_, rfl⟩
       rw [← hg1]
       have z1 : Blk m1 g1 (ints .i64 (List.replicate 16 0)) 75 := by rw [hm1, hg1]; exact Blk.made _ _ _
       have l1 : (wl11).heap.size ≤ g1 := by rw [hg1]; exact B0.size
       clear hm1 hg1
       have N1 : Ext wl11 m1 := B0.trans b1
       refine hK.out _ _ N1 (fun hHeld => ?_)
       clear hK K
       try simp only [Act.put, nrm]
       refine rdy 2 rfl fun K hK => ?_
       go_simp
       refine (radd_f _ Hex3.out Hez3.out).mono ?_
       rintro e m2 ⟨v2, rfl, e2, b2⟩
       obtain ⟨z2, hz2, l2⟩ := e2.form
       subst hz2
       have z1 := z1.below b2
       have N2 : Ext wl11 m2 := N1.trans b2
       refine hK.out _ _ N2 (fun hHeld => ?_)
       clear hK K
       try simp only [Act.put, nrm]
       refine rdy 4 rfl fun K hK => ?_
       go_simp
       refine (zco _ e2 HeBb.out).mono ?_
       rintro e m3 ⟨v3, rfl, e3, b3⟩
       obtain ⟨z3, hz3, l3⟩ := e3.form
       subst hz3
       have z1 := z1.below b3
       have N3 : Ext wl11 m3 := N2.trans b3
       refine hK.out _ _ N3 (fun hHeld => ?_)
       clear hK K
       try simp only [Act.put, nrm]
       refine rdy 6 rfl fun K hK => ?_
       refine zaw (by rfl) ?_
       refine zau _ _ _ rfl g1 (ints .i64 z3) rfl rfl _ _ z1 (by rw [zad, l3]; rfl) (zam l3) (zai _ _) ?_
       intro m4 hb4 hg4
       have N4 : Ext wl11 m4 := zae N3 hg4 l1
       refine hK.out _ _ N4 (fun hHeld => ?_)
       clear hK K
       try simp only [Act.put, nrm]
       refine dne ?_
       go_wp2_with fail
       go_meet
       exact ⟨_, rfl, l1, ⟨z3, l3, hb4, e3⟩, N4⟩
     case rest =>
      obtain ⟨TCB, rfl, hTg, hEl, hX⟩ := hcut
      have HTCB : Hid (TDA < TCB) := jh (Nat.lt_of_lt_of_le EDA.out.lt hTg)
      have Ex1 := jh (Ex1.out.ext hX)
      have Ex2 := jh (Ex2.out.ext hX)
      have Ez2 := jh (Ez2.out.ext hX)
      have Ex3 := jh (Ex3.out.ext hX)
      have Ez3 := jh (Ez3.out.ext hX)
      have EA := jh (EA.out.ext hX)
      have EAA := jh (EAA.out.ext hX)
      have EBb := jh (EBb.out.ext hX)
      have EBB := jh (EBB.out.ext hX)
      have EEe := jh (EEe.out.ext hX)
      have EDA := jh (EDA.out.ext hX)
      have HK := jh (zaa HK.out hX)
      have HR := jh (zaa HR.out hX)
      have HE := jh (HE.out.trans hX)
      have ECB := jh hEl
      have HO := jh (And.intro HO.out HTCB.out)
      clear hEl hX hTg
      generalize wc = wl12 at *
      obtain ⟨zDA, lDA, bDA, eDA⟩ := EDA.out
      have HbDA := jh bDA
      have HeDA := jh eDA
      have HlDA := jh lDA
      have HiDA := jh (zam lDA)
      clear bDA eDA lDA
      obtain ⟨zCB, lCB, bCB, eCB⟩ := ECB.out
      have HbCB := jh bCB
      have HeCB := jh eCB
      have HlCB := jh lCB
      have HiCB := jh (zam lCB)
      clear bCB eCB lCB
      go_wp2_with (first | (refine zab rfl _ _ rfl TDA rfl _ _ _ _ HbDA.out Tryz.underlying75 HiDA.out ?_) | (refine zab rfl _ _ rfl TCB rfl _ _ _ _ HbCB.out Tryz.underlying75 HiCB.out ?_))
      refine (radd_f wl12 HeDA.out HeCB.out).mono ?_
      rintro e wl13 ⟨r, rfl, hr, hb⟩
      obtain ⟨z, hz, lz⟩ := hr.form
      subst hz
      have Ex1 := jh (Ex1.out.ext hb)
      have Ex2 := jh (Ex2.out.ext hb)
      have Ez2 := jh (Ez2.out.ext hb)
      have Ex3 := jh (Ex3.out.ext hb)
      have Ez3 := jh (Ez3.out.ext hb)
      have EA := jh (EA.out.ext hb)
      have EAA := jh (EAA.out.ext hb)
      have EBb := jh (EBb.out.ext hb)
      have EBB := jh (EBB.out.ext hb)
      have EEe := jh (EEe.out.ext hb)
      have EDA := jh (EDA.out.ext hb)
      have ECB := jh (ECB.out.ext hb)
      have HK := jh (zaa HK.out hb)
      have HR := jh (zaa HR.out hb)
      have HE := jh (HE.out.trans hb)
      clear hb
      have HZ := jh (Blk.made wl13 (ints .i64 (List.replicate 16 0)) 75)
      have HEA := jh (Ext.alloc wl13 (.cells (ints .i64 (List.replicate 16 0)).toArray 75))
      have HI := jh (zam lz)
      have HL : Hid ((ints .i64 z).length = (ints .i64 (List.replicate 16 0)).length) := jh (by rw [zad, lz]; rfl)
      go_upto_region 23 with (refine zac rfl _ _ _ rfl wl13.heap.size (ints .i64 z) rfl rfl _ _ HZ.out HL.out HI.out (zai _ _) ?_; intro wl14 hbm hgm)
      have HX := jh (zae HEA.out hgm (Nat.le_refl _))
      obtain ⟨TS, hT⟩ : ∃ T, T = wl13.heap.size := ⟨_, rfl⟩
      have HTS : Hid (TCB < TS) := jh (by rw [hT]; exact ECB.out.lt)
      rw [← hT] at hbm ⊢
      have Ex1 := jh (Ex1.out.ext HX.out)
      have Ex2 := jh (Ex2.out.ext HX.out)
      have Ez2 := jh (Ez2.out.ext HX.out)
      have Ex3 := jh (Ex3.out.ext HX.out)
      have Ez3 := jh (Ez3.out.ext HX.out)
      have EA := jh (EA.out.ext HX.out)
      have EAA := jh (EAA.out.ext HX.out)
      have EBb := jh (EBb.out.ext HX.out)
      have EBB := jh (EBB.out.ext HX.out)
      have EEe := jh (EEe.out.ext HX.out)
      have EDA := jh (EDA.out.ext HX.out)
      have ECB := jh (ECB.out.ext HX.out)
      have HK := jh (zaa HK.out HX.out)
      have HR := jh (zaa HR.out HX.out)
      have HE := jh (HE.out.trans HX.out)
      have ES : Hid (ElB wl14 TS (((s.x3 - s.z3) * (s.x2 + s.z2)) + ((s.x3 + s.z3) * (s.x2 - s.z2)))) := jh ⟨z, lz, hbm, hr⟩
      have HO := jh (And.intro HO.out HTS.out)
      clear hbm hgm HZ HEA HX hT hr HI HL lz
      obtain ⟨zDA, lDA, bDA, eDA⟩ := EDA.out
      have HbDA := jh bDA
      have HeDA := jh eDA
      have HlDA := jh lDA
      have HiDA := jh (zam lDA)
      clear bDA eDA lDA
      obtain ⟨zCB, lCB, bCB, eCB⟩ := ECB.out
      have HbCB := jh bCB
      have HeCB := jh eCB
      have HlCB := jh lCB
      have HiCB := jh (zam lCB)
      clear bCB eCB lCB
      go_wp2_with (first | (refine zab rfl _ _ rfl TDA rfl _ _ _ _ HbDA.out Tryz.underlying75 HiDA.out ?_) | (refine zab rfl _ _ rfl TCB rfl _ _ _ _ HbCB.out Tryz.underlying75 HiCB.out ?_))
      refine (rsub_f wl14 HeDA.out HeCB.out).mono ?_
      rintro e wl15 ⟨r, rfl, hr, hb⟩
      obtain ⟨z, hz, lz⟩ := hr.form
      subst hz
      have Ex1 := jh (Ex1.out.ext hb)
      have Ex2 := jh (Ex2.out.ext hb)
      have Ez2 := jh (Ez2.out.ext hb)
      have Ex3 := jh (Ex3.out.ext hb)
      have Ez3 := jh (Ez3.out.ext hb)
      have EA := jh (EA.out.ext hb)
      have EAA := jh (EAA.out.ext hb)
      have EBb := jh (EBb.out.ext hb)
      have EBB := jh (EBB.out.ext hb)
      have EEe := jh (EEe.out.ext hb)
      have EDA := jh (EDA.out.ext hb)
      have ECB := jh (ECB.out.ext hb)
      have ES := jh (ES.out.ext hb)
      have HK := jh (zaa HK.out hb)
      have HR := jh (zaa HR.out hb)
      have HE := jh (HE.out.trans hb)
      clear hb
      have HZ := jh (Blk.made wl15 (ints .i64 (List.replicate 16 0)) 75)
      have HEA := jh (Ext.alloc wl15 (.cells (ints .i64 (List.replicate 16 0)).toArray 75))
      have HI := jh (zam lz)
      have HL : Hid ((ints .i64 z).length = (ints .i64 (List.replicate 16 0)).length) := jh (by rw [zad, lz]; rfl)
      go_upto_region 24 with (refine zac rfl _ _ _ rfl wl15.heap.size (ints .i64 z) rfl rfl _ _ HZ.out HL.out HI.out (zai _ _) ?_; intro wl16 hbm hgm)
      have HX := jh (zae HEA.out hgm (Nat.le_refl _))
      obtain ⟨TDd, hT⟩ : ∃ T, T = wl15.heap.size := ⟨_, rfl⟩
      have HTDd : Hid (TS < TDd) := jh (by rw [hT]; exact ES.out.lt)
      rw [← hT] at hbm ⊢
      have Ex1 := jh (Ex1.out.ext HX.out)
      have Ex2 := jh (Ex2.out.ext HX.out)
      have Ez2 := jh (Ez2.out.ext HX.out)
      have Ex3 := jh (Ex3.out.ext HX.out)
      have Ez3 := jh (Ez3.out.ext HX.out)
      have EA := jh (EA.out.ext HX.out)
      have EAA := jh (EAA.out.ext HX.out)
      have EBb := jh (EBb.out.ext HX.out)
      have EBB := jh (EBB.out.ext HX.out)
      have EEe := jh (EEe.out.ext HX.out)
      have EDA := jh (EDA.out.ext HX.out)
      have ECB := jh (ECB.out.ext HX.out)
      have ES := jh (ES.out.ext HX.out)
      have HK := jh (zaa HK.out HX.out)
      have HR := jh (zaa HR.out HX.out)
      have HE := jh (HE.out.trans HX.out)
      have EDd : Hid (ElB wl16 TDd (((s.x3 - s.z3) * (s.x2 + s.z2)) - ((s.x3 + s.z3) * (s.x2 - s.z2)))) := jh ⟨z, lz, hbm, hr⟩
      have HO := jh (And.intro HO.out HTDd.out)
      clear hbm hgm HZ HEA HX hT hr HI HL lz
      obtain ⟨zS, lS, bS, eS⟩ := ES.out
      have HbS := jh bS
      have HeS := jh eS
      have HlS := jh lS
      have HiS := jh (zam lS)
      clear bS eS lS
      go_wp2_with (first | (refine zab rfl _ _ rfl TS rfl _ _ _ _ HbS.out Tryz.underlying75 HiS.out ?_))
      refine (zco wl16 HeS.out HeS.out).mono ?_
      rintro e wl17 ⟨r, rfl, hr, hb⟩
      obtain ⟨z, hz, lz⟩ := hr.form
      subst hz
      have Ex1 := jh (Ex1.out.ext hb)
      have Ex2 := jh (Ex2.out.ext hb)
      have Ez2 := jh (Ez2.out.ext hb)
      have Ex3 := jh (Ex3.out.ext hb)
      have Ez3 := jh (Ez3.out.ext hb)
      have EA := jh (EA.out.ext hb)
      have EAA := jh (EAA.out.ext hb)
      have EBb := jh (EBb.out.ext hb)
      have EBB := jh (EBB.out.ext hb)
      have EEe := jh (EEe.out.ext hb)
      have EDA := jh (EDA.out.ext hb)
      have ECB := jh (ECB.out.ext hb)
      have ES := jh (ES.out.ext hb)
      have EDd := jh (EDd.out.ext hb)
      have HK := jh (zaa HK.out hb)
      have HR := jh (zaa HR.out hb)
      have HE := jh (HE.out.trans hb)
      clear hb
      obtain ⟨zx3, lx3, bx3, ex3⟩ := Ex3.out
      have Hbx3 := jh bx3
      have Hex3 := jh ex3
      have Hlx3 := jh lx3
      have Hix3 := jh (zam lx3)
      clear bx3 ex3 lx3
      have HI := jh (zam lz)
      have HL : Hid ((ints .i64 z).length = (ints .i64 zx3).length) := jh (by rw [zad, zad, lz, Hlx3.out])
      go_upto_region 25 with (refine zac rfl _ _ _ rfl Tx3 (ints .i64 z) rfl rfl _ _ Hbx3.out HL.out HI.out (zai _ _) ?_; intro wl18 hbm hgm)
      have Ex1 := jh (Ex1.out.grown hgm (by have := HO.out; simp; omega))
      have Ex2 := jh (Ex2.out.grown hgm (by have := HO.out; simp; omega))
      have Ez2 := jh (Ez2.out.grown hgm (by have := HO.out; simp; omega))
      have Ez3 := jh (Ez3.out.grown hgm (by have := HO.out; simp; omega))
      have EA := jh (EA.out.grown hgm (by have := HO.out; simp; omega))
      have EAA := jh (EAA.out.grown hgm (by have := HO.out; simp; omega))
      have EBb := jh (EBb.out.grown hgm (by have := HO.out; simp; omega))
      have EBB := jh (EBB.out.grown hgm (by have := HO.out; simp; omega))
      have EEe := jh (EEe.out.grown hgm (by have := HO.out; simp; omega))
      have EDA := jh (EDA.out.grown hgm (by have := HO.out; simp; omega))
      have ECB := jh (ECB.out.grown hgm (by have := HO.out; simp; omega))
      have ES := jh (ES.out.grown hgm (by have := HO.out; simp; omega))
      have EDd := jh (EDd.out.grown hgm (by have := HO.out; simp; omega))
      have HK := jh (HK.out.grown hgm (by have := HO.out; simp; omega))
      have HR := jh (HR.out.grown hgm (by have := HO.out; simp; omega))
      have HE := jh (zae HE.out hgm (by have := HO.out; omega))
      have Ex3 : Hid (ElB wl18 Tx3 ((((s.x3 - s.z3) * (s.x2 + s.z2)) + ((s.x3 + s.z3) * (s.x2 - s.z2))) * (((s.x3 - s.z3) * (s.x2 + s.z2)) + ((s.x3 + s.z3) * (s.x2 - s.z2))))) := jh ⟨z, lz, hbm, hr⟩
      clear hbm hgm hr HI HL lz
      obtain ⟨zx1, lx1, bx1, ex1⟩ := Ex1.out
      have Hbx1 := jh bx1
      have Hex1 := jh ex1
      have Hlx1 := jh lx1
      have Hix1 := jh (zam lx1)
      clear bx1 ex1 lx1
      obtain ⟨zDd, lDd, bDd, eDd⟩ := EDd.out
      have HbDd := jh bDd
      have HeDd := jh eDd
      have HlDd := jh lDd
      have HiDd := jh (zam lDd)
      clear bDd eDd lDd
      obtain ⟨zz3, lz3, bz3, ez3⟩ := Ez3.out
      have Hbz3 := jh bz3
      have Hez3 := jh ez3
      have Hlz3 := jh lz3
      have Hiz3 := jh (zam lz3)
      clear bz3 ez3 lz3
      go_wp2_with fail
      try simp only [Act.put, nrm]
      go_cut [86] from 87 to 90 (fun vq wq => ∃ wx, Ext wl18 wx ∧ wx.grownBy wq (some Tz3) ∧ ElB wq Tz3 (x1f * ((((s.x3 - s.z3) * (s.x2 + s.z2)) - ((s.x3 + s.z3) * (s.x2 - s.z2))) * (((s.x3 - s.z3) * (s.x2 + s.z2)) - ((s.x3 + s.z3) * (s.x2 - s.z2))))))
      case first =>
       have B0 : Ext wl18 wl18.drew := Ext.drew _
       refine wp_region_held_drew (S := fun w' => Far (Tz3) wl18 w') (by kernel_rfl) (zbn B0) (fun hHeld => ?_)
       refine tke 0 (.agg (ints .i64 zx1).toArray) rfl (yieldsIf_load_mid (by rfl) _ _ rfl Tx1 0 rfl _ _ (fun w h => zca Hbx1.out (by have := HO.out; omega) h) Tryz.underlying75 rfl Hix1.out) hHeld ?_
       simp only [Act.put, nrm]
       refine tke 1 (.agg (ints .i64 zDd).toArray) rfl (yieldsIf_load_mid (by rfl) _ _ rfl TDd 0 rfl _ _ (fun w h => zca HbDd.out (by have := HO.out; omega) h) Tryz.underlying75 rfl HiDd.out) hHeld ?_
       simp only [Act.put, nrm]
       refine tke 2 (.agg (ints .i64 zDd).toArray) rfl (yieldsIf_load_mid (by rfl) _ _ rfl TDd 0 rfl _ _ (fun w h => zca HbDd.out (by have := HO.out; omega) h) Tryz.underlying75 rfl HiDd.out) hHeld ?_
       simp only [Act.put, nrm]
       refine rdy 3 rfl fun K hK => ?_
       go_simp
       refine (zco _ HeDd.out HeDd.out).mono ?_
       rintro e m1 ⟨v1, rfl, e1, b1⟩
       obtain ⟨z1, hz1, l1⟩ := e1.form
       subst hz1
       have N1 : Ext wl18 m1 := B0.trans b1
       refine hK.out _ _ (zbn N1) (fun hHeld => ?_)
       clear hK K
       try simp only [Act.put, nrm]
       refine rdy 4 rfl fun K hK => ?_
       go_simp
       refine (zco _ Hex1.out e1).mono ?_
       rintro e m2 ⟨v2, rfl, e2, b2⟩
       obtain ⟨z2, hz2, l2⟩ := e2.form
       subst hz2
       have N2 : Ext wl18 m2 := N1.trans b2
       refine hK.out _ _ (zbn N2) (fun hHeld => ?_)
       clear hK K
       try simp only [Act.put, nrm]
       refine rdy 5 rfl fun K hK => ?_
       refine zaw (by rfl) ?_
       refine zau _ _ _ rfl Tz3 (ints .i64 z2) rfl rfl _ _ (zaa Hbz3.out N2) (by rw [zad, zad, l2, Hlz3.out]) (zam l2) (zai _ _) ?_
       intro m3 hb3 hg3
       refine hK.out _ _ (fars_put N2 hg3) (fun hHeld => ?_)
       clear hK K
       try simp only [Act.put, nrm]
       refine dne ?_
       go_wp2_with fail
       go_meet
       exact ⟨_, N2, hg3, ⟨z2, l2, hb3, e2⟩⟩
      case rest =>
       obtain ⟨wx, hX, hgm, hEl⟩ := hcut
       have Ex1 := jh (Ex1.out.ext hX)
       have Ex2 := jh (Ex2.out.ext hX)
       have Ez2 := jh (Ez2.out.ext hX)
       have Ex3 := jh (Ex3.out.ext hX)
       have Ez3 := jh (Ez3.out.ext hX)
       have EA := jh (EA.out.ext hX)
       have EAA := jh (EAA.out.ext hX)
       have EBb := jh (EBb.out.ext hX)
       have EBB := jh (EBB.out.ext hX)
       have EEe := jh (EEe.out.ext hX)
       have EDA := jh (EDA.out.ext hX)
       have ECB := jh (ECB.out.ext hX)
       have ES := jh (ES.out.ext hX)
       have EDd := jh (EDd.out.ext hX)
       have HK := jh (zaa HK.out hX)
       have HR := jh (zaa HR.out hX)
       have HE := jh (HE.out.trans hX)
       have Ex1 := jh (Ex1.out.grown hgm (by have := HO.out; simp; omega))
       have Ex2 := jh (Ex2.out.grown hgm (by have := HO.out; simp; omega))
       have Ez2 := jh (Ez2.out.grown hgm (by have := HO.out; simp; omega))
       have Ex3 := jh (Ex3.out.grown hgm (by have := HO.out; simp; omega))
       have EA := jh (EA.out.grown hgm (by have := HO.out; simp; omega))
       have EAA := jh (EAA.out.grown hgm (by have := HO.out; simp; omega))
       have EBb := jh (EBb.out.grown hgm (by have := HO.out; simp; omega))
       have EBB := jh (EBB.out.grown hgm (by have := HO.out; simp; omega))
       have EEe := jh (EEe.out.grown hgm (by have := HO.out; simp; omega))
       have EDA := jh (EDA.out.grown hgm (by have := HO.out; simp; omega))
       have ECB := jh (ECB.out.grown hgm (by have := HO.out; simp; omega))
       have ES := jh (ES.out.grown hgm (by have := HO.out; simp; omega))
       have EDd := jh (EDd.out.grown hgm (by have := HO.out; simp; omega))
       have HK := jh (HK.out.grown hgm (by have := HO.out; simp; omega))
       have HR := jh (HR.out.grown hgm (by have := HO.out; simp; omega))
       have HE := jh (zae HE.out hgm (by have := HO.out; omega))
       have Ez3 := jh hEl
       clear hEl hX hgm
       generalize wc = wl19 at *
       obtain ⟨zAA, lAA, bAA, eAA⟩ := EAA.out
       have HbAA := jh bAA
       have HeAA := jh eAA
       have HlAA := jh lAA
       have HiAA := jh (zam lAA)
       clear bAA eAA lAA
       obtain ⟨zBB, lBB, bBB, eBB⟩ := EBB.out
       have HbBB := jh bBB
       have HeBB := jh eBB
       have HlBB := jh lBB
       have HiBB := jh (zam lBB)
       clear bBB eBB lBB
       go_wp2_with (first | (refine zab rfl _ _ rfl TAA rfl _ _ _ _ HbAA.out Tryz.underlying75 HiAA.out ?_) | (refine zab rfl _ _ rfl TBB rfl _ _ _ _ HbBB.out Tryz.underlying75 HiBB.out ?_))
       refine (zco wl19 HeAA.out HeBB.out).mono ?_
       rintro e wl20 ⟨r, rfl, hr, hb⟩
       obtain ⟨z, hz, lz⟩ := hr.form
       subst hz
       have Ex1 := jh (Ex1.out.ext hb)
       have Ex2 := jh (Ex2.out.ext hb)
       have Ez2 := jh (Ez2.out.ext hb)
       have Ex3 := jh (Ex3.out.ext hb)
       have Ez3 := jh (Ez3.out.ext hb)
       have EA := jh (EA.out.ext hb)
       have EAA := jh (EAA.out.ext hb)
       have EBb := jh (EBb.out.ext hb)
       have EBB := jh (EBB.out.ext hb)
       have EEe := jh (EEe.out.ext hb)
       have EDA := jh (EDA.out.ext hb)
       have ECB := jh (ECB.out.ext hb)
       have ES := jh (ES.out.ext hb)
       have EDd := jh (EDd.out.ext hb)
       have HK := jh (zaa HK.out hb)
       have HR := jh (zaa HR.out hb)
       have HE := jh (HE.out.trans hb)
       clear hb
       obtain ⟨zx2, lx2, bx2, ex2⟩ := Ex2.out
       have Hbx2 := jh bx2
       have Hex2 := jh ex2
       have Hlx2 := jh lx2
       have Hix2 := jh (zam lx2)
       clear bx2 ex2 lx2
       have HI := jh (zam lz)
       have HL : Hid ((ints .i64 z).length = (ints .i64 zx2).length) := jh (by rw [zad, zad, lz, Hlx2.out])
       go_upto_region 27 with (refine zac rfl _ _ _ rfl Tx2 (ints .i64 z) rfl rfl _ _ Hbx2.out HL.out HI.out (zai _ _) ?_; intro wl21 hbm hgm)
       have Ex1 := jh (Ex1.out.grown hgm (by have := HO.out; simp; omega))
       have Ez2 := jh (Ez2.out.grown hgm (by have := HO.out; simp; omega))
       have Ex3 := jh (Ex3.out.grown hgm (by have := HO.out; simp; omega))
       have Ez3 := jh (Ez3.out.grown hgm (by have := HO.out; simp; omega))
       have EA := jh (EA.out.grown hgm (by have := HO.out; simp; omega))
       have EAA := jh (EAA.out.grown hgm (by have := HO.out; simp; omega))
       have EBb := jh (EBb.out.grown hgm (by have := HO.out; simp; omega))
       have EBB := jh (EBB.out.grown hgm (by have := HO.out; simp; omega))
       have EEe := jh (EEe.out.grown hgm (by have := HO.out; simp; omega))
       have EDA := jh (EDA.out.grown hgm (by have := HO.out; simp; omega))
       have ECB := jh (ECB.out.grown hgm (by have := HO.out; simp; omega))
       have ES := jh (ES.out.grown hgm (by have := HO.out; simp; omega))
       have EDd := jh (EDd.out.grown hgm (by have := HO.out; simp; omega))
       have HK := jh (HK.out.grown hgm (by have := HO.out; simp; omega))
       have HR := jh (HR.out.grown hgm (by have := HO.out; simp; omega))
       have HE := jh (zae HE.out hgm (by have := HO.out; omega))
       have Ex2 : Hid (ElB wl21 Tx2 (((s.x2 + s.z2) * (s.x2 + s.z2)) * ((s.x2 - s.z2) * (s.x2 - s.z2)))) := jh ⟨z, lz, hbm, hr⟩
       clear hbm hgm hr HI HL lz
       obtain ⟨zEe, lEe, bEe, eEe⟩ := EEe.out
       have HbEe := jh bEe
       have HeEe := jh eEe
       have HlEe := jh lEe
       have HiEe := jh (zam lEe)
       clear bEe eEe lEe
       obtain ⟨zAA, lAA, bAA, eAA⟩ := EAA.out
       have HbAA := jh bAA
       have HeAA := jh eAA
       have HlAA := jh lAA
       have HiAA := jh (zam lAA)
       clear bAA eAA lAA
       obtain ⟨zz2, lz2, bz2, ez2⟩ := Ez2.out
       have Hbz2 := jh bz2
       have Hez2 := jh ez2
       have Hlz2 := jh lz2
       have Hiz2 := jh (zam lz2)
       clear bz2 ez2 lz2
       go_wp2_with fail
       try simp only [Act.put, nrm]
       go_cut [94] from 95 to 100 (fun vq wq => ∃ wx, Ext wl21 wx ∧ wx.grownBy wq (some Tz2) ∧ ElB wq Tz2 ((((s.x2 + s.z2) * (s.x2 + s.z2)) - ((s.x2 - s.z2) * (s.x2 - s.z2))) * (((s.x2 + s.z2) * (s.x2 + s.z2)) + fp 121665 * (((s.x2 + s.z2) * (s.x2 + s.z2)) - ((s.x2 - s.z2) * (s.x2 - s.z2))))))
       case first =>
        have B0 : Ext wl21 wl21.drew := Ext.drew _
        refine wp_region_held_drew (S := fun w' => Far (Tz2) wl21 w') (by kernel_rfl) (zbn B0) (fun hHeld => ?_)
        refine tke 0 (.agg (ints .i64 zEe).toArray) rfl (yieldsIf_load_mid (by rfl) _ _ rfl TEe 0 rfl _ _ (fun w h => zca HbEe.out (by have := HO.out; omega) h) Tryz.underlying75 rfl HiEe.out) hHeld ?_
        simp only [Act.put, nrm]
        refine tke 1 (.agg (ints .i64 zAA).toArray) rfl (yieldsIf_load_mid (by rfl) _ _ rfl TAA 0 rfl _ _ (fun w h => zca HbAA.out (by have := HO.out; omega) h) Tryz.underlying75 rfl HiAA.out) hHeld ?_
        simp only [Act.put, nrm]
        refine tke 3 (.agg (ints .i64 zEe).toArray) rfl (yieldsIf_load_mid (by rfl) _ _ rfl TEe 0 rfl _ _ (fun w h => zca HbEe.out (by have := HO.out; omega) h) Tryz.underlying75 rfl HiEe.out) hHeld ?_
        simp only [Act.put, nrm]
        refine rdy 2 rfl fun K hK => ?_
        go_simp
        refine (rone_f 121665 _ (by omega) (by omega)).mono ?_
        rintro e m1 ⟨v1, rfl, e1, b1⟩
        obtain ⟨z1, hz1, l1⟩ := e1.form
        subst hz1
        have N1 : Ext wl21 m1 := B0.trans b1
        refine hK.out _ _ (zbn N1) (fun hHeld => ?_)
        clear hK K
        try simp only [Act.put, nrm]
        refine rdy 4 rfl fun K hK => ?_
        go_simp
        refine (zco _ e1 HeEe.out).mono ?_
        rintro e m2 ⟨v2, rfl, e2, b2⟩
        obtain ⟨z2, hz2, l2⟩ := e2.form
        subst hz2
        have N2 : Ext wl21 m2 := N1.trans b2
        refine hK.out _ _ (zbn N2) (fun hHeld => ?_)
        clear hK K
        try simp only [Act.put, nrm]
        refine rdy 5 rfl fun K hK => ?_
        go_simp
        refine (radd_f _ HeAA.out e2).mono ?_
        rintro e m3 ⟨v3, rfl, e3, b3⟩
        obtain ⟨z3, hz3, l3⟩ := e3.form
        subst hz3
        have N3 : Ext wl21 m3 := N2.trans b3
        refine hK.out _ _ (zbn N3) (fun hHeld => ?_)
        clear hK K
        try simp only [Act.put, nrm]
        refine rdy 6 rfl fun K hK => ?_
        go_simp
        refine (zco _ HeEe.out e3).mono ?_
        rintro e m4 ⟨v4, rfl, e4, b4⟩
        obtain ⟨z4, hz4, l4⟩ := e4.form
        subst hz4
        have N4 : Ext wl21 m4 := N3.trans b4
        refine hK.out _ _ (zbn N4) (fun hHeld => ?_)
        clear hK K
        try simp only [Act.put, nrm]
        refine rdy 7 rfl fun K hK => ?_
        refine zaw (by rfl) ?_
        refine zau _ _ _ rfl Tz2 (ints .i64 z4) rfl rfl _ _ (zaa Hbz2.out N4) (by rw [zad, zad, l4, Hlz2.out]) (zam l4) (zai _ _) ?_
        intro m5 hb5 hg5
        refine hK.out _ _ (fars_put N4 hg5) (fun hHeld => ?_)
        clear hK K
        try simp only [Act.put, nrm]
        refine dne ?_
        go_wp2_with fail
        go_meet
        exact ⟨_, N4, hg5, ⟨z4, l4, hb5, e4⟩⟩
       case rest =>
        obtain ⟨wx, hX, hgm, hEl⟩ := hcut
        have Ex1 := jh (Ex1.out.ext hX)
        have Ex2 := jh (Ex2.out.ext hX)
        have Ez2 := jh (Ez2.out.ext hX)
        have Ex3 := jh (Ex3.out.ext hX)
        have Ez3 := jh (Ez3.out.ext hX)
        have EA := jh (EA.out.ext hX)
        have EAA := jh (EAA.out.ext hX)
        have EBb := jh (EBb.out.ext hX)
        have EBB := jh (EBB.out.ext hX)
        have EEe := jh (EEe.out.ext hX)
        have EDA := jh (EDA.out.ext hX)
        have ECB := jh (ECB.out.ext hX)
        have ES := jh (ES.out.ext hX)
        have EDd := jh (EDd.out.ext hX)
        have HK := jh (zaa HK.out hX)
        have HR := jh (zaa HR.out hX)
        have HE := jh (HE.out.trans hX)
        have Ex1 := jh (Ex1.out.grown hgm (by have := HO.out; simp; omega))
        have Ex2 := jh (Ex2.out.grown hgm (by have := HO.out; simp; omega))
        have Ex3 := jh (Ex3.out.grown hgm (by have := HO.out; simp; omega))
        have Ez3 := jh (Ez3.out.grown hgm (by have := HO.out; simp; omega))
        have EA := jh (EA.out.grown hgm (by have := HO.out; simp; omega))
        have EAA := jh (EAA.out.grown hgm (by have := HO.out; simp; omega))
        have EBb := jh (EBb.out.grown hgm (by have := HO.out; simp; omega))
        have EBB := jh (EBB.out.grown hgm (by have := HO.out; simp; omega))
        have EEe := jh (EEe.out.grown hgm (by have := HO.out; simp; omega))
        have EDA := jh (EDA.out.grown hgm (by have := HO.out; simp; omega))
        have ECB := jh (ECB.out.grown hgm (by have := HO.out; simp; omega))
        have ES := jh (ES.out.grown hgm (by have := HO.out; simp; omega))
        have EDd := jh (EDd.out.grown hgm (by have := HO.out; simp; omega))
        have HK := jh (HK.out.grown hgm (by have := HO.out; simp; omega))
        have HR := jh (HR.out.grown hgm (by have := HO.out; simp; omega))
        have HE := jh (zae HE.out hgm (by have := HO.out; omega))
        have Ez2 := jh hEl
        clear hEl hX hgm
        generalize wc = wl22 at *
        go_wp2_with fail
        go_roundw
        case rel => exact ⟨k + 1, by omega, by go_num, Ex1.out, (by rw [HG.out]; exact Ex2.out), (by rw [HG.out]; have h := Ez2.out; rw [fp_lit] at h; exact h), (by rw [HG.out]; exact Ex3.out), (by rw [HG.out]; exact Ez3.out), HK.out, HR.out, HE.out⟩
        case measure => simp [intOf]; omega
  ·have hk' : k = 255 := by omega
   subst hk'
   have HF : Hid (nbF (s.x2 * fi s.z2) = ladB kb ub) := jh (by rw [hs, HXF.out, HME.out, HCE.out]; rfl)
   clear hs
   go_wp2_with fail
   obtain ⟨zx2, lx2, bx2, ex2⟩ := Ex2.out
   have Hbx2 := jh bx2
   have Hex2 := jh ex2
   have Hlx2 := jh lx2
   have Hix2 := jh (zam lx2)
   clear bx2 ex2 lx2
   obtain ⟨zz2, lz2, bz2, ez2⟩ := Ez2.out
   have Hbz2 := jh bz2
   have Hez2 := jh ez2
   have Hlz2 := jh lz2
   have Hiz2 := jh (zam lz2)
   clear bz2 ez2 lz2
   have B0 : Ext wr wr.drew := Ext.drew _
   refine wp_region_held_drew (S := fun w' => Far (A + 1 + 1) wr w') (by kernel_rfl) (zbn B0) (fun hHeld => ?_)
   refine tke 0 (.agg (ints .i64 zx2).toArray) rfl (yieldsIf_load_mid (by rfl) _ _ rfl Tx2 0 rfl _ _ (fun w h => zca Hbx2.out (by have := HO.out; omega) h) Tryz.underlying75 rfl Hix2.out) hHeld ?_
   simp only [Act.put, nrm]
   refine tke 1 (.agg (ints .i64 zz2).toArray) rfl (yieldsIf_load_mid (by rfl) _ _ rfl Tz2 0 rfl _ _ (fun w h => zca Hbz2.out (by have := HO.out; omega) h) Tryz.underlying75 rfl Hiz2.out) hHeld ?_
   simp only [Act.put, nrm]
   refine rdy 2 rfl fun K hK => ?_
   go_simp
   refine (rinv_f _ Hez2.out).mono ?_
   rintro e m1 ⟨v1, rfl, e1, b1⟩
   obtain ⟨z1, hz1, l1⟩ := e1.form
   subst hz1
   have N1 : Ext wr m1 := B0.trans b1
   refine hK.out _ _ (zbn N1) (fun hHeld => ?_)
   clear hK K
   try simp only [Act.put, nrm]
   refine rdy 3 rfl fun K hK => ?_
   go_simp
   refine (zco _ Hex2.out e1).mono ?_
   rintro e m2 ⟨v2, rfl, e2, b2⟩
   obtain ⟨z2, hz2, l2⟩ := e2.form
   subst hz2
   have N2 : Ext wr m2 := N1.trans b2
   refine hK.out _ _ (zbn N2) (fun hHeld => ?_)
   clear hK K
   try simp only [Act.put, nrm]
   refine rdy 4 rfl fun K hK => ?_
   go_simp
   refine (rout_f _ e2).mono ?_
   rintro e m3 ⟨rfl, b3⟩
   have N3 : Ext wr m3 := N2.trans b3
   refine hK.out _ _ (zbn N3) (fun hHeld => ?_)
   clear hK K
   try simp only [Act.put, nrm]
   refine rdy 5 rfl fun K hK => ?_
   refine zaw (by rfl) ?_
   refine zau _ _ _ rfl (A + 1 + 1) ((nbF (s.x2 * fi s.z2)).map bval) rfl rfl _ _ (zaa HR.out N3) (by rw [List.length_map, zay, zad]; rfl) (zaf (zay _)) (zag _) ?_
   intro m4 hb4 hg4
   refine hK.out _ _ (fars_put N3 hg4) (fun hHeld => ?_)
   clear hK K
   try simp only [Act.put, nrm]
   refine dne ?_
   go_wp2_with fail
   refine bodyPost_ret (zap rfl _ (A + 1 + 1) _ _ _ _ rfl hb4 Tryz.underlying23 (zaf (zay _))) rfl ?_
   exact ⟨by rw [HF.out], zae (HE.out.trans N3) hg4 (by have := HO.out; omega)⟩
theorem rladpub_any (k : List UInt8) (w : World) (hk : k.length = 32) : Calls Tryz.prog 17 #[.agg (k.map bval).toArray] w fun e w' => e = .returned (.agg ((pubB k).map bval).toArray) ∧ Below w.heap.size w w' := by
 have HB := jh (boxes3 w (k.map bval) (ints .u8 (List.replicate 32 0)) (nineB.map bval) 23 23 23)
 have HKL := jh hk
 clear hk
 go_enter Tryz.func17, Tryz.ntmps17
 go_upto_region 3 with (fail)
 obtain ⟨H1, H2, H3, HE⟩ := HB.out
 change Code.wp _ _ _ _ (((w.alloc (.cells (k.map bval).toArray 23)).alloc (.cells (ints .u8 (List.replicate 32 0)).toArray 23)).alloc (.cells (nineB.map bval).toArray 23))
 generalize ((w.alloc (.cells (k.map bval).toArray 23)).alloc (.cells (ints .u8 (List.replicate 32 0)).toArray 23)).alloc (.cells (nineB.map bval).toArray 23) = wa at *
 obtain ⟨A, hA⟩ : ∃ A, A = w.heap.size := ⟨_, rfl⟩
 have HAW : Hid (w.heap.size ≤ A) := jh (by omega)
 rw [← hA] at H1 H2 H3 ⊢
 have H1 := jh H1
 have H2 := jh H2
 have H3 := jh H3
 have HE : Hid (Ext w wa) := jh HE
 clear hA HB
 have HIK := jh (zaf HKL.out)
 have HIN := jh (zaf nineB_length)
 have HIP : Hid ((Tryz.prog.info? 23).map (·.size) = some ((pubB k).map bval).length) := jh (zaf (zct _ _))
 have HLP : Hid (((pubB k).map bval).length = (ints .u8 (List.replicate 32 0)).length) := jh (by rw [List.length_map, zad]; exact zct _ _)
 have HC := jh (rladder_any k nineB wa HKL.out nineB_length)
 generalize nineB.map bval = nb9 at *
 go_wp2_with (first | (refine zab rfl _ _ rfl A rfl _ _ _ _ H1.out Tryz.underlying23 HIK.out ?_) | (refine zab rfl _ _ rfl (A + 1 + 1) rfl _ _ _ _ H3.out Tryz.underlying23 HIN.out ?_))
 refine HC.out.mono ?_
 rintro e w5 ⟨rfl, hb⟩
 have HP : Hid (ladB k nineB = pubB k) := jh rfl
 rw [HP.out]
 have H2 := jh (zaa H2.out hb)
 have HE := jh (HE.out.trans hb)
 clear hb HC
 go_wp2_with (refine zac rfl _ _ _ rfl (A + 1) ((pubB k).map bval) rfl rfl _ _ H2.out HLP.out HIP.out (zag _) ?_; intro w6 hb6 hg6)
 refine bodyPost_ret (zap rfl _ (A + 1) _ _ _ _ rfl hb6 Tryz.underlying23 HIP.out) rfl ?_
 exact ⟨rfl, zae HE.out hg6 (by have := HAW.out; omega)⟩
theorem rshared_any (k u : List UInt8) (w : World) (hk : k.length = 32) (hu : u.length = 32) : Calls Tryz.prog 18 #[.agg (k.map bval).toArray, .agg (u.map bval).toArray] w fun e w' => e = .returned (.tuple #[.agg ((ladB k u).map bval).toArray, .int .i64 (shErr k u)]) ∧ Below w.heap.size w w' := by
 have HB := jh (boxes3 w (k.map bval) (u.map bval) (ints .u8 (List.replicate 32 0)) 23 23 23)
 have HKL := jh hk
 have HUL := jh hu
 clear hk hu
 go_enter Tryz.func18, Tryz.ntmps18
 go_upto_region 1 with (fail)
 obtain ⟨H1, H2, H3, HE⟩ := HB.out
 change Code.wp _ _ _ _ (((w.alloc (.cells (k.map bval).toArray 23)).alloc (.cells (u.map bval).toArray 23)).alloc (.cells (ints .u8 (List.replicate 32 0)).toArray 23))
 generalize ((w.alloc (.cells (k.map bval).toArray 23)).alloc (.cells (u.map bval).toArray 23)).alloc (.cells (ints .u8 (List.replicate 32 0)).toArray 23) = wa at *
 obtain ⟨A, hA⟩ : ∃ A, A = w.heap.size := ⟨_, rfl⟩
 have HAW : Hid (w.heap.size ≤ A) := jh (by omega)
 rw [← hA] at H1 H2 H3 ⊢
 have H1 := jh H1
 have H2 := jh H2
 have H3 := jh H3
 have HE : Hid (Ext w wa) := jh HE
 clear hA HB
 have HIK := jh (zaf HKL.out)
 have HIU := jh (zaf HUL.out)
 have HZL : Hid ((ladB k u).length = 32) := jh (zct _ _)
 have HC := jh (rladder_any k u wa HKL.out HUL.out)
 obtain ⟨z, hz⟩ : ∃ z, z = ladB k u := ⟨_, rfl⟩
 have HZE : Hid (shErr k u = if z = zer then 21 else 0) := jh (by rw [hz]; rfl)
 rw [← hz] at HC HZL
 have HZQ := jh hz
 clear hz
 have HIZ := jh (zaf HZL.out)
 have HLZ : Hid ((z.map bval).length = (ints .u8 (List.replicate 32 0)).length) := jh (by rw [List.length_map, zad, HZL.out]; rfl)
 go_wp2_with (first | (refine zab rfl _ _ rfl A rfl _ _ _ _ H1.out Tryz.underlying23 HIK.out ?_) | (refine zab rfl _ _ rfl (A + 1) rfl _ _ _ _ H2.out Tryz.underlying23 HIU.out ?_))
 refine HC.out.mono ?_
 rintro e w5 ⟨rfl, hb⟩
 have H3 := jh (zaa H3.out hb)
 have HE := jh (HE.out.trans hb)
 clear hb HC H1 H2
 have HZ := jh (Blk.made w5 (ints .u8 (List.replicate 32 0)) 23)
 have HEA := jh (Ext.alloc w5 (.cells (ints .u8 (List.replicate 32 0)).toArray 23))
 have HDL := jh H3.out.lt
 have H3 := jh (zaa H3.out HEA.out)
 have HE := jh (HE.out.trans HEA.out)
 go_upto_region 2 with (refine zac rfl _ _ _ rfl w5.heap.size (z.map bval) rfl rfl _ _ HZ.out HLZ.out HIZ.out (zag _) ?_; intro w6 hb6 hg6)
 have H3 := jh (H3.out.grown hg6 (by have := HDL.out; simp; omega))
 have HE := jh (zae HE.out hg6 (by have := HDL.out; have := HAW.out; omega))
 have HD := jh hb6
 generalize w5.heap.size = D at *
 clear hb6 hg6 HZ HEA HDL
 have hbz := build_num
 by_cases hzz : z = zer
 ·have HZE : Hid (shErr k u = 21) := jh (by rw [HZE.out, if_pos hzz])
  have HQ := jh (decide_eq_true hzz)
  clear hzz
  go_wp2_with (first | (refine wpList_eql (by rfl) _ _ _ _ _ _ 32 _ z zer true rfl (Or.inl ⟨rfl, HQ.out⟩) Tryz.underlying23 Tryz.underlying5 num_info zek num_guard rfl rfl HZL.out zer_length ?_) | (refine zab rfl _ _ rfl D rfl _ _ _ _ HD.out Tryz.underlying23 HIZ.out ?_) | (refine zac rfl _ _ _ rfl (A + 1 + 1) (z.map bval) rfl rfl _ _ H3.out HLZ.out HIZ.out (zag _) ?_; intro w7 hb7 hg7))
  refine bodyPost_ret (zbq (p := 4) (u := 5) (by rfl) _ (A + 1 + 1) _ _ _ (by rfl) hb7 Tryz.underlying23 rfl HIZ.out) rfl ⟨by rw [HZE.out, ← HZQ.out]; rfl, zae HE.out hg7 (by have := HAW.out; omega)⟩
 ·have HZE : Hid (shErr k u = 0) := jh (by rw [HZE.out, if_neg hzz])
  have HQ := jh (decide_eq_false hzz)
  clear hzz
  go_wp2_with (first | (refine wpList_eql (by rfl) _ _ _ _ _ _ 32 _ z zer false rfl (Or.inl ⟨rfl, HQ.out⟩) Tryz.underlying23 Tryz.underlying5 num_info zek num_guard rfl rfl HZL.out zer_length ?_) | (refine zab rfl _ _ rfl D rfl _ _ _ _ HD.out Tryz.underlying23 HIZ.out ?_) | (refine zac rfl _ _ _ rfl (A + 1 + 1) (z.map bval) rfl rfl _ _ H3.out HLZ.out HIZ.out (zag _) ?_; intro w7 hb7 hg7))
  refine bodyPost_ret (zbq (p := 4) (u := 5) (by rfl) _ (A + 1 + 1) _ _ _ (by rfl) hb7 Tryz.underlying23 rfl HIZ.out) rfl ⟨by rw [HZE.out, ← HZQ.out]; rfl, zae HE.out hg7 (by have := HAW.out; omega)⟩
theorem rMac_any (kv bv : Value) (k m : List UInt8) (w : World) (hk : Row1 w kv (k.map bval)) (hm : Row1 w bv (m.map bval)) (hkl : k.length ≤ 1099511627776) (hml : m.length ≤ 1099511627712) (hG : GlobK w) :
  Calls Tryz.prog 59 #[kv, bv] w fun e w' => e = .returned (.agg ((hmac k m).map bval).toArray) ∧ Below w.heap.size w w' := by
 have HK := jh hk
 have HM := jh hm
 have HG := jh hG
 have HKL := jh hkl
 have HML := jh hml
 obtain ⟨a, cap, rfl, r1, r2, r3, r4⟩ := id hk
 rw [List.length_map] at r1 HK ⊢
 unfold maxLen at r2
 have HB0 := jh (Blk.made w (ints .u8 (List.replicate 32 0)) 23)
 have HE0 := jh (Ext.alloc w (.cells (ints .u8 (List.replicate 32 0)).toArray 23))
 clear hk hm hG hkl hml r3 r4
 go_enter Tryz.func59, Tryz.ntmps59
 go_upto_if 12 with (fail)
 change Code.wp _ _ _ _ (w.alloc (.cells (ints .u8 (List.replicate 32 0)).toArray 23))
 generalize hw1 : w.alloc (.cells (ints .u8 (List.replicate 32 0)).toArray 23) = w1 at *
 clear hw1
 go_cut [0, 5] from 10 to 15 (fun v u5 wc => ∃ (a' : Option Addr) (n cap' : Nat), v = .slice a' n cap' ∧ n = (hKey k).length ∧ Row1 wc (.slice a' n cap') ((hKey k).map bval) ∧ Blk wc w.heap.size (ints .u8 (List.replicate 32 0)) 23 ∧ Ext w wc)
 case first =>
  by_cases h64 : 64 < k.length
  ·have h64' : (64 : Int) < (k.length : Int) := by omega
   have hkk := hKey_long h64
   go_wp2_with fail
   refine (rSha_any _ k _ (HK.out.below HE0.out) HKL.out (HG.out.ext HE0.out)).mono ?_
   rintro e w2 ⟨rfl, hb⟩
   have HE2 := jh (HE0.out.trans hb)
   have HB2 := jh (HB0.out.same (hb.block _ HB0.out.lt))
   clear hb HB0 HE0
   have HHK := jh hkk
   have HL := jh (zcb k)
   clear hkk
   generalize sha256 k = o at *
   have HZ := jh (Blk.made w2 (ints .u8 (List.replicate 32 0)) 23)
   have HE3 := jh (HE2.out.trans (Ext.alloc w2 (.cells (ints .u8 (List.replicate 32 0)).toArray 23)))
   have HB3 := jh (HB2.out.same ((Ext.alloc w2 (.cells (ints .u8 (List.replicate 32 0)).toArray 23)).block _ HB2.out.lt))
   have HIo : Hid ((Tryz.prog.info? 23).map (·.size) = some (o.map bval).length) := jh (zaf HL.out)
   have HLo : Hid ((o.map bval).length = (ints .u8 (List.replicate 32 0)).length) := jh (by rw [List.length_map, HL.out, zad, List.length_replicate])
   have HS2 := jh HE2.out.size
   have HLT := jh HB2.out.lt
   go_wp2_with (refine zac rfl _ _ _ rfl w2.heap.size (o.map bval) rfl rfl _ _ HZ.out HLo.out HIo.out (zag _) ?_; intro w7 hb7 hg7)
   go_meet
   exact ⟨_, _, _, rfl, by rw [HHK.out, HL.out], by rw [HHK.out]; exact zbo (n := 32) hb7 (by rw [List.length_map, HL.out]) (by unfold maxLen; omega), HB3.out.grown hg7 (fun e => by have h := Option.some.inj e; have := HLT.out; omega), zae HE3.out hg7 HS2.out⟩
  ·have h64' : ¬ (64 : Int) < (k.length : Int) := by omega
   have hkk := hKey_small (k := k) (by omega)
   go_wp2_with fail
   go_meet
   exact ⟨_, _, _, rfl, by rw [hkk], by rw [hkk]; exact HK.out.below HE0.out, HB0.out, HE0.out⟩
 case rest =>
  obtain ⟨a', n, cap', rfl, hn, hrow, hbr, hE⟩ := hcut
  clear HK HB0 HE0 r1 r2 HKL
  obtain ⟨i0, hi, hz0, hz1, hz2⟩ := info_parts Tryz.info5
  have hkl := hKey_length k
  have hpl := hPad_length hkl
  have hsp := zdb 64 (hKey k)
  have hmac : hmac k m = sha256 (xTo (hPad (hKey k)) 0x5c 64 ++ sha256 (xTo (hPad (hKey k)) 0x36 64 ++ m)) := by
   rw [xTo_full 0x36 hpl, xTo_full 0x5c hpl]
   rfl
  have hpp : (hKey k) ++ List.replicate (64 - (hKey k).length) 0 = hPad (hKey k) := rfl
  rw [hpp] at hsp
  have HMAC := jh hmac
  clear hmac hpp
  generalize hPad (hKey k) = p at *
  generalize hKey k = q at *
  subst hn
  have HSP := jh hsp
  have HPL := jh hpl
  have HQL := jh hkl
  have HR := jh hrow
  have HBR := jh hbr
  have HE := jh hE
  have HS := jh hE.size
  have HBL := jh hbr.lt
  -- the two blocks
  have hmk := zdi wc 25 5 Tryz.underlying25 i0 hi hz0 hz1 hz2 64 (by omega)
  have hmk2 := zdi (wc.alloc (.cells ((zB 64).map bval).toArray 5)) 25 5 Tryz.underlying25 i0 hi hz0 hz1 hz2 64 (by omega)
  rw [show ((64 : Nat) : Int) = 64 from rfl] at hmk hmk2
  have HB2 := jh (boxes2 wc ((zB 64).map bval) ((zB 64).map bval) 5 5)
  clear hsp hpl hkl hrow hbr hE hi hz0 hz1 hz2
  go_upto_region 6 with (fail)
  change Code.wp _ _ _ _ ((wc.alloc (.cells ((zB 64).map bval).toArray 5)).alloc (.cells ((zB 64).map bval).toArray 5))
  clear hmk hmk2
  have HS2 : Hid ((wc.alloc (.cells ((zB 64).map bval).toArray 5)).heap.size = wc.heap.size + 1) := jh (by simp)
  generalize (wc.alloc (.cells ((zB 64).map bval).toArray 5)).alloc (.cells ((zB 64).map bval).toArray 5) = w2 at *
  obtain ⟨b1, b2, b3⟩ := HB2.out
  have hrw2 := HR.out.below b3
  have HSI := jh (row_src HR.out q (by rw [List.take_length]) (Nat.le_refl _) b3)
  have HN : Hid ((q.map bval).length = Nat.min q.length 64) := jh (by rw [List.length_map]; exact (Nat.min_eq_left HQL.out).symm)
  have HF : Hid (0 + (q.map bval).length ≤ ((zB 64).map bval).length) := jh (by rw [List.length_map, List.length_map, zch]; have := HQL.out; omega)
  obtain ⟨I, hI⟩ : ∃ I, I = wc.heap.size := ⟨_, rfl⟩
  have hs2 := HS2.out
  rw [← hI] at b1 b2 b3 hs2
  rw [← hI]
  have H1 := jh (b1 : w2.heap[I]? = some (.cells ((zB 64).map bval).toArray 5 (0, 0)))
  have H2 := jh b2
  have HE2 : Hid (Ext w w2) := jh (HE.out.trans (by rw [hI] at b3; exact b3))
  have HBR2 : Hid (Blk w2 w.heap.size (ints .u8 (List.replicate 32 0)) 23) := jh (HBR.out.same (b3.block _ (by have := HBL.out; omega)))
  have HIW : Hid (w.heap.size < I) := jh (by have := HBL.out; omega)
  have HEC : Hid (Ext wc w2) := jh (by rw [hI] at b3; exact b3)
  have HIC := jh hI
  clear b1 b2 b3 hrw2 HB2 HS2 hs2 HE HBR hI
  have H1 : Hid (Blk w2 I ((zB 64).map bval) 5) := jh H1.out
  go_upto_region 7 with (refine zcx rfl (.tmp 18) (.tmp 19) 25 25 rfl 5 Tryz.underlying25 one_u8 (some ⟨I, 0, none⟩) a' 64 64 q.length cap' rfl rfl I 0 ((zB 64).map bval) 5 H1.out (q.map bval) HN.out (fun h => ⟨rfl, HSI.out h⟩) HF.out (zag _) ?_; intro w3 hc3 hg3)
  rw [HSP.out] at hc3
  have HE3 : Hid (Ext w w3) := jh (zae HE2.out hg3 (by have := HIW.out; omega))
  have H23 := jh (H2.out.grown hg3 (fun e => by have h := Option.some.inj e; omega))
  have HBR3 := jh (HBR2.out.grown hg3 (fun e => by have h := Option.some.inj e; have := HIW.out; omega))
  have HSI3 := jh (row_src HR.out q (by rw [List.take_length]) (Nat.le_refl _) (zae HEC.out hg3 (by rw [HIC.out]; exact Nat.le_refl _)))
  have H13 : Hid (Blk w3 I (p.map bval) 5) := jh hc3
  clear hc3 hg3 H1 H2 HE2 HBR2 HSI HEC HR
  simp only [Act.put, nrm]
  go_upto_region 8 with (refine zcx rfl (.tmp 21) (.tmp 22) 25 25 rfl 5 Tryz.underlying25 one_u8 (some ⟨I + 1, 0, none⟩) a' 64 64 q.length cap' rfl rfl (I + 1) 0 ((zB 64).map bval) 5 H23.out (q.map bval) HN.out (fun h => ⟨rfl, HSI3.out h⟩) HF.out (zag _) ?_; intro w4 hc4 hg4)
  simp only [Act.put, nrm]
  rw [HSP.out] at hc4
  have HE4 : Hid (Ext w w4) := jh (zae HE3.out hg4 (by have := HIW.out; omega))
  have H14 := jh (H13.out.grown hg4 (fun e => by have h := Option.some.inj e; omega))
  have H24 : Hid (Blk w4 (I + 1) (p.map bval) 5) := jh hc4
  have HBR4 := jh (HBR3.out.grown hg4 (fun e => by have h := Option.some.inj e; have := HIW.out; omega))
  clear hc4 hg4 H13 H23 HE3 HBR3 HSI3 HF HN HSP
  go_wp2_with fail
  go_loopw [8] (fun iv wr => ∃ (j : Nat), j ≤ 64 ∧ iv = .int .i64 (j : Int) ∧ Blk wr I ((xTo p 0x36 j).map bval) 5 ∧ Blk wr (I + 1) ((xTo p 0x5c j).map bval) 5 ∧ Blk wr w.heap.size (ints .u8 (List.replicate 32 0)) 23 ∧ Ext w wr) (fun iv _ => 64 - (intOf iv).toNat)
  case atStart => exact ⟨0, by omega, rfl, by rw [xTo_zero]; exact H14.out, by rw [xTo_zero]; exact H24.out, HBR4.out, HE4.out⟩
  case round =>
   clear H14 H24 HBR4 HE4
   obtain ⟨j, hj, rfl, hb1, hb2, hbr, hbel⟩ := hrel
   have k0 : (0 : Int) ≤ (j : Int) := Int.natCast_nonneg _
   by_cases hlj : j < 64
   ·have k1 : (j : Int) < 64 := by omega
    have hjp : j < p.length := by rw [HPL.out]; exact hlj
    have c1 := hb1.cell j
    rw [zbb (by rw [xTo_length]; exact hjp), xTo_getD p _ j hjp] at c1
    have c2 := hb2.cell j
    rw [zbb (by rw [xTo_length]; exact hjp), xTo_getD p _ j hjp] at c2
    have f1 := hb1.free j
    have f2 := hb2.free j
    have x1 := xor_u8 (p.getD j 0) 0x36
    have x2 := xor_u8 (p.getD j 0) 0x5c
    rw [show (((0x36 : UInt8).toNat : Nat) : Int) = 54 from rfl] at x1
    rw [show (((0x5c : UInt8).toNat : Nat) : Int) = 92 from rfl] at x2
    have HX1 := jh (xTo_set p 0x36 j hjp)
    have HX2 := jh (xTo_set p 0x5c j hjp)
    have B1 := jh hb1
    have B2 := jh hb2
    have BR := jh hbr
    have HE := jh hbel
    generalize hy1 : p.getD j 0 ^^^ 0x36 = y1 at *
    generalize hy2 : p.getD j 0 ^^^ 0x5c = y2 at *
    clear hb1 hb2 hbr hbel hy1 hy2
    obtain ⟨y, hy⟩ : ∃ y, y = p.getD j 0 := ⟨_, rfl⟩
    rw [← hy] at x1 x2 c1 c2
    have HY := jh hy
    clear hy
    go_upto_region 12 with (fail)
    change Code.wp _ _ _ _ (wr.setCell ⟨I, j, none⟩ (bval y1))
    have B1 : Hid (Blk (wr.setCell ⟨I, j, none⟩ (bval y1)) I ((xTo p 0x36 (j + 1)).map bval) 5) := jh (by rw [← HX1.out, List.map_set]; exact B1.out.set j _)
    have B2 := jh (B2.out.far (a := ⟨I, j, none⟩) (by simp) (bval y1))
    have BR := jh (BR.out.far (a := ⟨I, j, none⟩) (by have := HIW.out; simp; omega) (bval y1))
    have HE : Hid (Ext w (wr.setCell ⟨I, j, none⟩ (bval y1))) := jh (Below.setCell HE.out (by have := HIW.out; simp; omega) _)
    generalize wr.setCell ⟨I, j, none⟩ (bval y1) = ws at *
    have c2 := B2.out.cell j
    rw [zbb (by rw [xTo_length]; exact hjp), xTo_getD p _ j hjp, ← HY.out] at c2
    have f2 := B2.out.free j
    go_wp2_with fail
    go_roundw
    case rel =>
     refine ⟨j + 1, by omega, by go_num, B1.out.far (by simp) _, ?_, BR.out.far (by have := HIW.out; simp; omega) _, Below.setCell HE.out (by have := HIW.out; simp; omega) _⟩
     rw [← HX2.out, List.map_set]
     exact B2.out.set j _
    case measure => simp [intOf]; omega
   ·have hj64 : j = 64 := by omega
    subst hj64
    have HX1L : ((xTo p 0x36 64).map bval).length = 64 := by rw [List.length_map, xTo_length]; exact HPL.out
    have HX2L : ((xTo p 0x5c 64).map bval).length = 64 := by rw [List.length_map, xTo_length]; exact HPL.out
    have HO1 := jh (own_blk (base := I) hb1 (Nat.le_refl _) HX1L (by unfold maxLen; omega))
    have HB2 := jh hb2
    have HBR := jh hbr
    have HE := jh hbel
    have HS := jh hbel.size
    have HIS : Hid (I ≤ wr.heap.size) := jh (Nat.le_of_lt hb1.lt)
    have HX1L := jh HX1L
    have HX2L := jh HX2L
    have HMR := jh (HM.out.below hbel)
    have HMM : Hid ((m.map bval).length = m.length) := jh (List.length_map _)
    obtain ⟨i0, hi, hz0, hz1, hz2⟩ := info_parts Tryz.info5
    have HI0 := jh hi
    have HZ0 := jh hz0
    have HZ1 := jh hz1
    have HZ2 := jh hz2
    clear hb1 hb2 hbr hbel hi hz0 hz1 hz2
    go_wp2_with (at_builtin; refine zas rfl _ _ 25 rfl I 5 i0 (.int .u8 0) 1 Tryz.underlying25 HI0.out HZ0.out HZ1.out HZ2.out rfl _ 64 _ rfl HO1.out rfl HMR.out (zag _) (by have := HML.out; rw [HMM.out]; unfold maxLen; omega) (by have := HML.out; rw [HMM.out]; omega) HIS.out ?_; intro v3 w3 hown3 hgrow3)
    have hgrow3 : wr.grownBy w3 (some I) := hgrow3
    have HE3 := jh (zck HE.out HO1.out (by have := HIW.out; omega) hgrow3)
    have HB23 := jh (HB2.out.grown hgrow3 (fun h => by have := Option.some.inj h; omega))
    have HBR3 := jh (HBR.out.grown hgrow3 (fun h => by have := Option.some.inj h; have := HIW.out; omega))
    rw [← List.map_append] at hown3
    refine (rSha_any _ (xTo p 0x36 64 ++ m) _ (Row1.of_own hown3) (by rw [List.length_append]; have := HX1L.out; rw [List.length_map] at this; have := HML.out; omega) (HG.out.ext HE3.out)).mono ?_
    rintro e w4 ⟨rfl, hb⟩
    have HE4 := jh (HE3.out.trans hb)
    have HB24 := jh (HB23.out.same (hb.block _ HB23.out.lt))
    have HBR4 := jh (HBR3.out.same (hb.block _ HBR3.out.lt))
    have HIS4 : Hid (I ≤ w4.heap.size) := jh (by have := HB24.out.lt; omega)
    clear hb hown3 hgrow3 HE3 HB23 HBR3 HB2 HBR HE HO1 HX1L HMR HS
    have HL := jh (zcb (xTo p 0x36 64 ++ m))
    generalize sha256 (xTo p 0x36 64 ++ m) = o at *
    have HZ := jh (Blk.made w4 (ints .u8 (List.replicate 32 0)) 23)
    have HA := Ext.alloc w4 (.cells (ints .u8 (List.replicate 32 0)).toArray 23)
    have HE5 := jh (HE4.out.trans HA)
    have HB25 := jh (HB24.out.same (HA.block _ HB24.out.lt))
    have HBR5 := jh (HBR4.out.same (HA.block _ HBR4.out.lt))
    have HIo : Hid ((Tryz.prog.info? 23).map (·.size) = some (o.map bval).length) := jh (zaf HL.out)
    have HLo : Hid ((o.map bval).length = (ints .u8 (List.replicate 32 0)).length) := jh (by rw [List.length_map, HL.out, zad, List.length_replicate])
    have HS4 := jh HE4.out.size
    have HBL4 := jh HBR4.out.lt
    have HBI4 := jh HB24.out.lt
    go_upto_region 14 with (refine zac rfl _ _ _ rfl w4.heap.size (o.map bval) rfl rfl _ _ HZ.out HLo.out HIo.out (zag _) ?_; intro w7 hb7 hg7)
    have HE7 := jh (zae HE5.out hg7 HS4.out)
    have HB27 := jh (HB25.out.grown hg7 (fun h => by have := Option.some.inj h; have := HBI4.out; omega))
    have HBR7 := jh (HBR5.out.grown hg7 (fun h => by have := Option.some.inj h; have := HBL4.out; omega))
    have HR7 := jh (zbo (n := 32) hb7 (by rw [List.length_map, HL.out]) (by unfold maxLen; omega))
    have HO2 := jh (own_blk (base := I + 1) HB27.out (Nat.le_refl _) HX2L.out (by unfold maxLen; omega))
    have HI7 : Hid (I + 1 ≤ w7.heap.size) := jh (by have := HB27.out.lt; omega)
    have HL2 : Hid ((o.map bval).length = 32) := jh (by rw [List.length_map, HL.out])
    generalize w4.heap.size = g9 at *
    clear hb7 hg7 HZ HA HB24 HB25 HBR4 HBR5 HE4 HE5 HS4 HBL4 HBI4 HIS4 HIS HLo
    go_wp2_with (at_builtin; refine zas rfl _ _ 25 rfl (I + 1) 5 i0 (.int .u8 0) 1 Tryz.underlying25 HI0.out HZ0.out HZ1.out HZ2.out rfl _ 64 _ rfl HO2.out rfl HR7.out (zag _) (by rw [HL2.out]; unfold maxLen; omega) (by rw [HL2.out]; omega) HI7.out ?_; intro v8 w8 hown8 hgrow8)
    have hgrow8 : w7.grownBy w8 (some (I + 1)) := hgrow8
    have HE8 := jh (zck HE7.out HO2.out (by have := HIW.out; omega) hgrow8)
    have HBR8 := jh (HBR7.out.grown hgrow8 (fun h => by have := Option.some.inj h; have := HIW.out; omega))
    rw [← List.map_append] at hown8
    refine (rSha_any _ (xTo p 0x5c 64 ++ o) _ (Row1.of_own hown8) (by rw [List.length_append, HL.out]; have := HX2L.out; rw [List.length_map] at this; omega) (HG.out.ext HE8.out)).mono ?_
    rintro e w9 ⟨rfl, hb⟩
    have HE9 := jh (HE8.out.trans hb)
    have HBR9 := jh (HBR8.out.same (hb.block _ HBR8.out.lt))
    rw [← HMAC.out]
    clear hb hown8 hgrow8 HE8 HBR8 HE7 HBR7 HB27 HR7 HO2 HI7 HL2 HIo HL HX2L
    obtain ⟨o2, ho2⟩ : ∃ o2, o2 = hmac k m := ⟨_, rfl⟩
    rw [← ho2]
    have HL : Hid (o2.length = 32) := jh (by rw [ho2]; exact zbr k m)
    have HO2 := jh ho2
    clear ho2
    have HIo : Hid ((Tryz.prog.info? 23).map (·.size) = some (o2.map bval).length) := jh (zaf HL.out)
    have HLo : Hid ((o2.map bval).length = (ints .u8 (List.replicate 32 0)).length) := jh (by rw [List.length_map, HL.out, zad, List.length_replicate])
    go_wp2_with (refine zac rfl _ _ _ rfl w.heap.size (o2.map bval) rfl rfl _ _ HBR9.out HLo.out HIo.out (zag _) ?_; intro w10 hb10 hg10)
    refine bodyPost_ret (zap rfl _ w.heap.size _ _ _ _ rfl hb10 Tryz.underlying23 HIo.out) rfl ?_
    exact ⟨by rw [HO2.out], zae HE9.out hg10 (Nat.le_refl _)⟩
end Go.Proofs.YtimmnieopifcbaaGreatDoor
