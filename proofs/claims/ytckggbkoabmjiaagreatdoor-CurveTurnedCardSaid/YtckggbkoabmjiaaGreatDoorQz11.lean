/- Texts that belong together, one behind the other. -/
import Derived.Test.YtckggbkoabmjiaaGreatDoorQz10
namespace Go.Proofs.YtckggbkoabmjiaaGreatDoor
set_option linter.unusedVariables false
set_option linter.unusedSimpArgs false
open Go.RowKit
theorem base_nb : nbF (4 * fi 5) = encB bP := by
 have h5 : (5 : Fp) ≠ 0 := by decide +kernel
 have hi := f_inv h5
 have hy : bP.y * 5 = 4 := by decide +kernel
 have e : (4 : Fp) * fi 5 = bP.y := by
  rw [← hy, Fin.mul_assoc, hi, Fin.mul_one]
 have hx : bP.x.val % 2 = 0 := by decide +kernel
 rw [e]
 unfold encB enc
 rw [hx, Nat.mul_zero, Nat.add_zero]
 rfl
theorem cdec_base (w : World) (f : Fp) (hf : f = 4 * fi 5) (hG : GlobC w) : Calls Tryz.prog 14 #[.agg ((nbF f).map bval).toArray] w fun e w' => e = .returned (.tuple #[.agg (ptF bP.es).toArray, .bool true]) ∧ Below w.heap.size w w' := by
 subst hf
 have h := cdecoded_f w (nbF (4 * fi 5)) (zaf _) hG
 rw [base_nb] at h ⊢
 rw [decE_enc, zez ⟨bP, rfl⟩] at h
 exact h
set_option maxRecDepth 100000 in
set_option maxHeartbeats 4000000 in
theorem cbase_f (w : World) (hG : GlobC w) : Calls Tryz.prog 19 #[] w fun e w' => e = .returned (.agg (ptF bP.es).toArray) ∧ Below w.heap.size w w' := by
 have HGC := Lib.hid hG
 clear hG
 have HB := Lib.hid (zeg w zq 37)
 go_enter Tryz.func19, Tryz.ntmps19
 go_upto_region 1 with (fail)
 obtain ⟨H1, HE⟩ := HB.out
 change Code.wp _ _ _ _ (World.alloc w (.cells zq.toArray 37))
 generalize (World.alloc w (.cells zq.toArray 37)) = wa at *
 obtain ⟨A, hA⟩ : ∃ A, A = w.heap.size := ⟨_, rfl⟩
 have HAW : Hid (w.heap.size ≤ A) := Lib.hid (by omega)
 rw [← hA] at H1 ⊢
 have H1 := Lib.hid H1
 have HE : Hid (Ext w wa) := Lib.hid HE
 clear hA HB
 obtain ⟨f4, h4⟩ : ∃ f, f = (4 : Fp) := ⟨_, rfl⟩
 obtain ⟨f5, h5⟩ : ∃ f, f = (5 : Fp) := ⟨_, rfl⟩
 have HB4 := Lib.hid build_nb4
 have HB5 := Lib.hid build_nb5
 rw [← h4] at HB4
 rw [← h5] at HB5
 have HF4 := Lib.hid h4
 have HF5 := Lib.hid h5
 clear h4 h5
 go_wp2_with (first | (refine zcg rfl 23 #[(0, .const (.int .u8 4))] rfl #[(0, .int .u8 4)] (by simp [Act.eval]) (.agg ((nbF f4).map bval).toArray) (HB4.out _) ?_) | (refine zcg rfl 23 #[(0, .const (.int .u8 5))] rfl #[(0, .int .u8 5)] (by simp [Act.eval]) (.agg ((nbF f5).map bval).toArray) (HB5.out _) ?_))
 refine (finv_f _ (F32.nb f5)).mono ?_
 rintro e w5 ⟨rfl, hb⟩
 have H1 := Lib.hid (zaa H1.out hb)
 have HE := Lib.hid (HE.out.trans hb)
 clear hb
 go_wp2_with fail
 refine (zeq _ (F32.nb f4) (F32.nb (fi f5))).mono ?_
 rintro e w6 ⟨rfl, hb⟩
 have H1 := Lib.hid (zaa H1.out hb)
 have HE := Lib.hid (HE.out.trans hb)
 clear hb
 go_wp2_with fail
 refine (cdec_base _ _ (by rw [HF4.out, HF5.out]) (HGC.out.ext HE.out)).mono ?_
 rintro e w8 ⟨rfl, hb⟩
 have H1 := Lib.hid (zaa H1.out hb)
 have HE := Lib.hid (HE.out.trans hb)
 clear hb
 obtain ⟨es, hes⟩ : ∃ k, k = bP.es := ⟨_, rfl⟩
 rw [← hes]
 have HES := Lib.hid hes
 clear hes
 have HZ := Lib.hid (Blk.made w8 zq 37)
 have HEA := Lib.hid (Ext.alloc w8 (.cells zq.toArray 37))
 have HL : Hid ((ptF es).length = zq.length) := Lib.hid ((zbb _).trans zq_length.symm)
 go_upto_region 2 with (refine zac rfl _ _ _ rfl w8.heap.size (ptF es) rfl rfl _ _ HZ.out HL.out (zaz _) (zch _) ?_; intro w7 hb hg)
 have HX := Lib.hid (zad HEA.out hg (Nat.le_refl _))
 generalize w8.heap.size = pb at *
 have H1 := Lib.hid (zaa H1.out HX.out)
 have HE := Lib.hid (HE.out.trans HX.out)
 have HV := Lib.hid hb
 clear hb hg HX HZ HEA
 go_wp2_with (first | (refine wpList_load_mid rfl _ _ rfl pb 0 rfl _ _ HV.out.range Tryz.underlying37 rfl (zaz _) ?_) | (refine zac rfl _ _ _ rfl A (ptF es) rfl rfl _ _ H1.out HL.out (zaz _) (zch _) ?_; intro w9 hb9 hg9))
 exact bodyPost_ret (zax (by rfl) _ A _ _ _ (by rfl) hb9 Tryz.underlying37 rfl (zaz _)) rfl ⟨by rw [HES.out], zad HE.out hg9 (by have := HAW.out; omega)⟩
set_option maxRecDepth 100000 in
set_option maxHeartbeats 4000000 in
theorem CMay_num (n : List UInt8) (w : World) (hn : n.length = 32) (hG : GlobC w) : Calls Tryz.prog 8 #[.agg (n.map bval).toArray] w fun e w' => e = .returned (.bool (mayB n)) ∧ Below w.heap.size w w' := by
 have HNL := Lib.hid hn
 clear hn
 have HGC := Lib.hid hG
 clear hG
 have HB := Lib.hid (zeg w (n.map bval) 23)
 go_enter Tryz.func8, Tryz.ntmps8
 go_upto_region 1 with (fail)
 obtain ⟨H1, HE⟩ := HB.out
 change Code.wp _ _ _ _ (World.alloc w (.cells (n.map bval).toArray 23))
 generalize (World.alloc w (.cells (n.map bval).toArray 23)) = wa at *
 obtain ⟨A, hA⟩ : ∃ A, A = w.heap.size := ⟨_, rfl⟩
 have HAW : Hid (w.heap.size ≤ A) := Lib.hid (by omega)
 rw [← hA] at H1 ⊢
 have H1 := Lib.hid H1
 have HE : Hid (Ext w wa) := Lib.hid HE
 clear hA HB
 go_wp2_with (first | (refine wpList_load_mid rfl _ _ rfl A 0 rfl _ _ (H1.out.range) Tryz.underlying23 rfl (zae HNL.out) ?_))
 refine (cdecoded_f _ n HNL.out (HGC.out.ext HE.out)).mono ?_
 rintro e w8 ⟨rfl, hb⟩
 have H1 := Lib.hid (zaa H1.out hb)
 have HE := Lib.hid (HE.out.trans hb)
 clear hb
 obtain ⟨es, hes⟩ : ∃ k, k = decE n := ⟨_, rfl⟩
 rw [← hes]
 clear hes
 obtain ⟨mb, hmb⟩ : ∃ k, k = mayB n := ⟨_, rfl⟩
 rw [← hmb]
 have HMB := Lib.hid hmb
 clear hmb
 have HZ := Lib.hid (Blk.made w8 zq 37)
 have HEA := Lib.hid (Ext.alloc w8 (.cells zq.toArray 37))
 have HL : Hid ((ptF es).length = zq.length) := Lib.hid ((zbb _).trans zq_length.symm)
 go_upto_region 2 with (refine zac rfl _ _ _ rfl w8.heap.size (ptF es) rfl rfl _ _ HZ.out HL.out (zaz _) (zch _) ?_; intro w7 hb hg)
 have HX := Lib.hid (zad HEA.out hg (Nat.le_refl _))
 have HE := Lib.hid (HE.out.trans HX.out)
 clear hb hg HX HZ HEA HL
 go_wp2_with fail
 go_ret
 exact ⟨by rw [HMB.out]; rfl, HE.out⟩
theorem u8_shl7_int (b : UInt8) : (b.toNat : Int) * (128 : Int) % (256 : Int) = ((b <<< 7).toNat : Int) := by
 have hh : ∀ n : Fin 256, ((UInt8.ofNat n.val).toNat : Int) * (128 : Int) % (256 : Int) = (((UInt8.ofNat n.val) <<< 7).toNat : Int) := by decide +kernel
 have := hh ⟨b.toNat, b.toNat_lt⟩
 simpa using this
set_option maxRecDepth 100000 in
set_option maxHeartbeats 4000000 in
theorem cencoded_f (w : World) (s : ES) : Calls Tryz.prog 17 #[.agg (ptF s).toArray] w fun e w' => e = .returned (.agg ((encS s).map bval).toArray) ∧ Below w.heap.size w w' := by
 have HB := Lib.hid (boxes2 w (ptF s) (ints .u8 (List.replicate 32 0)) 37 23)
 go_enter Tryz.func17, Tryz.ntmps17
 go_upto_region 1 with (fail)
 obtain ⟨H1, H2, HE⟩ := HB.out
 change Code.wp _ _ _ _ (World.alloc (World.alloc w (.cells (ptF s).toArray 37)) (.cells (ints .u8 (List.replicate 32 0)).toArray 23))
 generalize (World.alloc (World.alloc w (.cells (ptF s).toArray 37)) (.cells (ints .u8 (List.replicate 32 0)).toArray 23)) = wa at *
 obtain ⟨A, hA⟩ : ∃ A, A = w.heap.size := ⟨_, rfl⟩
 have HAW : Hid (w.heap.size ≤ A) := Lib.hid (by omega)
 rw [← hA] at H1 H2 ⊢
 have H1 := Lib.hid H1
 have H2 := Lib.hid H2
 have HE : Hid (Ext w wa) := Lib.hid HE
 clear hA HB
 obtain ⟨fz, hfz⟩ : ∃ k, k = fi s.z := ⟨_, rfl⟩
 have HFZ := Lib.hid hfz
 go_wp2_with (first | (refine wpList_load_mid rfl _ _ rfl A 64 rfl _ _ (ptF_z (H1.out.range) rfl) Tryz.underlying23 rfl (zae (zaf _)) ?_))
 refine (finv_f _ (F32.nb s.z)).mono ?_
 rintro e w5 ⟨rfl, hb⟩
 have H1 := Lib.hid (zaa H1.out hb)
 have H2 := Lib.hid (zaa H2.out hb)
 have HE := Lib.hid (HE.out.trans hb)
 rw [← hfz]
 clear hb hfz
 have HZ := Lib.hid (Blk.made w5 (ints .u8 (List.replicate 32 0)) 23)
 have HEA := Lib.hid (Ext.alloc w5 (.cells (ints .u8 (List.replicate 32 0)).toArray 23))
 have HL : Hid (((nbF fz).map bval).length = (ints .u8 (List.replicate 32 0)).length) := Lib.hid (by rw [List.length_map, zaf]; rfl)
 go_upto_region 2 with (refine zac rfl _ _ _ rfl w5.heap.size ((nbF fz).map bval) rfl rfl _ _ HZ.out HL.out (zae (zaf _)) (zaj _) ?_; intro w7 hb hg)
 have HX := Lib.hid (zad HEA.out hg (Nat.le_refl _))
 obtain ⟨pi, hT⟩ : ∃ T, T = w5.heap.size := ⟨_, rfl⟩
 rw [← hT] at hb ⊢
 clear hT
 have H1 := Lib.hid (zaa H1.out HX.out)
 have H2 := Lib.hid (zaa H2.out HX.out)
 have HE := Lib.hid (HE.out.trans HX.out)
 have HVi := Lib.hid hb
 clear hb hg HX HZ HEA HL
 generalize w7 = wi at *
 go_wp2_with fail
 have HLA := Lib.hid H2.out.lt
 refine zak 8 4 10 rfl (by kernel_rfl) (by kernel_rfl) (fun d v c a w h => by cases d <;> exact h) (by kernel_rfl) ?_
 refine zbk _ _ A _ 0 0 (by rfl) rfl rfl (fun w => by go_simp) ?_
 simp only [Act.put, nrm]
 refine zai _ _ A 0 ((nbF s.x).map bval) _ (by rfl) rfl rfl (fun w hw => ptF_x ((zaa H1.out hw).range)) Tryz.underlying23 rfl (zae (zaf _)) ?_
 simp only [Act.put, nrm]
 refine zai _ _ pi 0 ((nbF fz).map bval) _ (by rfl) rfl rfl (fun w hw => (zaa HVi.out hw).range) Tryz.underlying23 rfl (zae (zaf _)) ?_
 simp only [Act.put, nrm]
 refine zah _ _ _ [.agg ((nbF s.x).map bval).toArray, .agg ((nbF fz).map bval).toArray] (.agg ((nbF (s.x * fz)).map bval).toArray) (by rfl) rfl Tryz.call37 rfl (fun w hw => zeq w (F32.nb _) (F32.nb _)) ?_
 simp only [Act.put, nrm]
 refine zbk _ _ A _ 0 32 (by rfl) rfl rfl (fun w => by go_simp) ?_
 simp only [Act.put, nrm]
 refine zai _ _ A 32 ((nbF s.y).map bval) _ (by rfl) rfl rfl (fun w hw => ptF_y ((zaa H1.out hw).range) rfl) Tryz.underlying23 rfl (zae (zaf _)) ?_
 simp only [Act.put, nrm]
 refine zai _ _ pi 0 ((nbF fz).map bval) _ (by rfl) rfl rfl (fun w hw => (zaa HVi.out hw).range) Tryz.underlying23 rfl (zae (zaf _)) ?_
 simp only [Act.put, nrm]
 refine zah _ _ _ [.agg ((nbF s.y).map bval).toArray, .agg ((nbF fz).map bval).toArray] (.agg ((nbF (s.y * fz)).map bval).toArray) (by rfl) rfl Tryz.call37 rfl (fun w hw => zeq w (F32.nb _) (F32.nb _)) ?_
 simp only [Act.put, nrm]
 refine zaw (end_var2 (k := 8) 23 4 5 (.tmp 12) (.tmp 16) (ints .u8 (List.replicate 32 0)) ((nbF (s.x * fz)).map bval) ((nbF (s.y * fz)).map bval) rfl rfl rfl rfl (by kernel_rfl) (by kernel_rfl) (by kernel_rfl) (by kernel_rfl) (by kernel_rfl) (by kernel_rfl) (by kernel_rfl) (by kernel_rfl) (by kernel_rfl) (by kernel_rfl) rfl rfl rfl rfl rfl rfl rfl rfl (by decide) (fun w => by rw [Tryz.zeroValue23]; rfl) rfl rfl rfl rfl (by simp) (by simp) (fun p q => rfl) (fun p q => rfl) (by rw [List.length_map, zaf]; rfl) (by rw [List.length_map, zaf]; rfl) (zae (zaf _)) (zae (zaf _)) (zaj _) (zaj _) (fun px py wy hpq hp1 hp2 hb1 hb2 he => ?_))
 try simp only [Act.put, nrm]
 have H1 := Lib.hid (zaa H1.out he)
 have H2 := Lib.hid (zaa H2.out he)
 have HVi := Lib.hid (zaa HVi.out he)
 have HE := Lib.hid (HE.out.trans he)
 have HPQ := Lib.hid hpq
 have HPx := Lib.hid hp1
 have HPy := Lib.hid hp2
 clear he hpq hp1 hp2
 obtain ⟨vx, hq⟩ : ∃ kk, kk = (s.x * fz) := ⟨_, rfl⟩
 rw [← hq] at hb1
 have HQx := Lib.hid hq
 clear hq
 have HVx := Lib.hid hb1
 obtain ⟨vy, hq⟩ : ∃ kk, kk = (s.y * fz) := ⟨_, rfl⟩
 rw [← hq] at hb2
 have HQy := Lib.hid hq
 clear hq
 have HVy := Lib.hid hb2
 clear hb1 hb2
 have HLT : Hid (A + 1 < py) := Lib.hid (Nat.lt_of_lt_of_le HLA.out HPy.out)
 have hqe : encS s = (nbF vy).set 31 ((nbF vy).getD 31 0 ||| ((nbF vx).getD 0 0 <<< 7)) := by rw [HQx.out, HQy.out, HFZ.out]; rfl
 have HQE := Lib.hid hqe
 have HEL := Lib.hid (encS_length s)
 obtain ⟨en, hen⟩ : ∃ k, k = encS s := ⟨_, rfl⟩
 rw [← hen] at hqe HEL
 have HEN := Lib.hid hen
 have c0 := HVx.out.cell 0
 rw [zbm (by rw [zaf]; omega)] at c0
 have c1 := HVy.out.cell 31
 rw [zbm (by rw [zaf]; omega)] at c1
 have f1 := HVy.out.free 31
 have hsh := u8_shl7_int ((nbF vx).getD 0 0)
 have hor := u8_or ((nbF vy).getD 31 0) ((nbF vx).getD 0 0 <<< 7)
 have HX1 : Hid (((nbF vy).map bval).set 31 (.int .u8 ((((nbF vy).getD 31 0 ||| ((nbF vx).getD 0 0 <<< 7)).toNat : Nat) : Int)) = en.map bval) := Lib.hid (by rw [u8_set, hqe])
 clear hqe hen
 generalize ((((nbF vy).getD 31 0 ||| ((nbF vx).getD 0 0 <<< 7)).toNat : Nat) : Int) = q3 at *
 generalize ((((nbF vx).getD 0 0 <<< 7).toNat : Nat) : Int) = q2 at *
 generalize (((nbF vx).getD 0 0).toNat : Int) = q0 at *
 generalize (((nbF vy).getD 31 0).toNat : Int) = q1 at *
 go_upto_region 4 with (fail)
 try rw [show (q0 * 128 % 256 : Int) = q2 from hsh]
 try rw [hor]
 have HM := Lib.hid (HVy.out.set 31 (.int .u8 q3))
 rw [HX1.out] at HM
 have HR := Lib.hid (H2.out.far (a := ⟨py, 31, none⟩) (by have h0 := HPy.out; have h1 := H2.out.lt; simp; exact fun e => by have := HLT.out; omega) (.int .u8 q3))
 have HE := Lib.hid (Below.setCell HE.out (p := ⟨py, 31, none⟩) (by have := HLT.out; have := HAW.out; simp; omega) (.int .u8 q3))
 generalize wy.setCell ⟨py, 31, none⟩ (.int .u8 q3) = wz at *
 have HE : Hid (Ext w wz) := Lib.hid HE.out
 clear c0 c1 f1 HX1 hsh hor
 have HL : Hid ((en.map bval).length = (ints .u8 (List.replicate 32 0)).length) := Lib.hid (by rw [List.length_map, HEL.out, zab]; rfl)
 go_wp2_with (first | (refine zag rfl _ _ rfl py rfl _ _ _ _ HM.out Tryz.underlying23 (zae HEL.out) ?_) | (refine zac rfl _ _ _ rfl (A + 1) (en.map bval) rfl rfl _ _ HR.out HL.out (zae HEL.out) (zaj _) ?_; intro w9 hb9 hg9))
 refine bodyPost_ret (zbj rfl _ (A + 1) _ _ _ _ rfl hb9 Tryz.underlying23 (zae HEL.out)) rfl ?_
 exact ⟨by rw [HEN.out], zad HE.out hg9 (by have := HAW.out; omega)⟩
set_option maxRecDepth 100000 in
set_option maxHeartbeats 4000000 in
theorem cbit_any (n : List UInt8) (i : Nat) (w : World) (hn : n.length = 32) (hi : i < 256) : Calls Tryz.prog 49 #[.agg (n.map bval).toArray, .int .i64 (i : Int)] w fun e w' => e = .returned (.int .u8 (((leN n).testBit i).toNat : Nat)) ∧ Below w.heap.size w w' := by
 have HNL := Lib.hid hn
 have HB := Lib.hid (zeg w (n.map bval) 23)
 obtain ⟨q, hq⟩ : ∃ q, q = i / 8 := ⟨_, rfl⟩
 obtain ⟨r, hr⟩ : ∃ r, r = i % 8 := ⟨_, rfl⟩
 have q1 : (i : Int) / 8 = (q : Int) := by omega
 have r1 : (i : Int) % 8 = (r : Int) := by omega
 have r2 : (i : Int).tmod 8 = (r : Int) := by rw [Int.tmod_eq_emod_of_nonneg (by omega)]; exact r1
 have q2 : (i : Int).tdiv 8 = (q : Int) := by rw [Int.tdiv_eq_ediv_of_nonneg (by omega)]; exact q1
 have q3 : (q : Int) < 32 := by omega
 have r3 : (r : Int) < 8 := by omega
 have q0 : (0 : Int) ≤ (q : Int) := Int.natCast_nonneg _
 have r0 : (0 : Int) ≤ (r : Int) := Int.natCast_nonneg _
 have i0 : (0 : Int) ≤ (i : Int) := Int.natCast_nonneg _
 have HQ := Lib.hid hq
 have HRR := Lib.hid hr
 clear hn hq hr
 go_enter Tryz.func49, Tryz.ntmps49
 go_upto_region 1 with (fail)
 obtain ⟨H1, HE⟩ := HB.out
 change Code.wp _ _ _ _ (w.alloc (.cells (n.map bval).toArray 23))
 generalize w.alloc (.cells (n.map bval).toArray 23) = wa at *
 obtain ⟨A, hA⟩ : ∃ A, A = w.heap.size := ⟨_, rfl⟩
 rw [← hA] at H1 ⊢
 have H1 := Lib.hid H1
 have HE : Hid (Ext w wa) := Lib.hid HE
 clear hA HB
 have c0 := H1.out.cell q
 rw [zbm (by rw [HNL.out]; omega)] at c0
 generalize hbt : (n.getD q 0).toNat = bt at *
 have HBT := Lib.hid hbt
 clear hbt
 go_wp2_with fail
 go_ret
 refine ⟨?_, HE.out⟩
 have hb := leN_bit n i (by have := HNL.out; omega)
 rw [← HQ.out, HBT.out, ← HRR.out] at hb
 have hc : (bt : Int) / 2 ^ r = ((bt / 2 ^ r : Nat) : Int) := by
  rw [Int.natCast_ediv, Int.natCast_pow]
  rfl
 rw [hc, andU1, ← hb, Nat.testBit_eq_decide_div_mod_eq]
 have h2 : leN n / 2 ^ i % 2 < 2 := Nat.mod_lt _ (by omega)
 generalize leN n / 2 ^ i % 2 = z at *
 rcases (by omega : z = 0 ∨ z = 1) with rfl | rfl <;> rfl
theorem cbit_t (n : List UInt8) (i : Nat) (w : World) (b : Bool) (hn : n.length = 32) (hi : i < 256) (hb : (leN n).testBit i = b) : Calls Tryz.prog 49 #[.agg (n.map bval).toArray, .int .i64 (i : Int)] w fun e w' => e = .returned (.int .u8 ((b.toNat : Nat) : Int)) ∧ Below w.heap.size w w' := by
 have h := cbit_any n i w hn hi
 rwa [hb] at h
set_option maxRecDepth 100000 in
set_option maxHeartbeats 4000000 in
theorem ctimes_f (w : World) (n : List UInt8) (p : ES) (hn : n.length = 32) (hG : GlobC w) : Calls Tryz.prog 32 #[.agg (n.map bval).toArray, .agg (ptF p).toArray] w fun e w' => e = .returned (.agg (ptF (crun p (leN n) 255)).toArray) ∧ Below w.heap.size w w' := by
 have HNL := Lib.hid hn
 clear hn
 have HGC := Lib.hid hG
 clear hG
 have HB := Lib.hid (boxes3 w (n.map bval) (ptF p) zq 23 37 37)
 go_enter Tryz.func32, Tryz.ntmps32
 go_upto_region 1 with (fail)
 obtain ⟨H1, H2, H3, HE⟩ := HB.out
 change Code.wp _ _ _ _ (World.alloc (World.alloc (World.alloc w (.cells (n.map bval).toArray 23)) (.cells (ptF p).toArray 37)) (.cells zq.toArray 37))
 generalize (World.alloc (World.alloc (World.alloc w (.cells (n.map bval).toArray 23)) (.cells (ptF p).toArray 37)) (.cells zq.toArray 37)) = wa at *
 obtain ⟨A, hA⟩ : ∃ A, A = w.heap.size := ⟨_, rfl⟩
 have HAW : Hid (w.heap.size ≤ A) := Lib.hid (by omega)
 rw [← hA] at H1 H2 H3 ⊢
 have H1 := Lib.hid H1
 have H2 := Lib.hid H2
 have H3 := Lib.hid H3
 have HE : Hid (Ext w wa) := Lib.hid HE
 clear hA HB
 go_wp2_with fail
 refine (czero_f _).mono ?_
 rintro e w5 ⟨rfl, hb⟩
 have H1 := Lib.hid (zaa H1.out hb)
 have H2 := Lib.hid (zaa H2.out hb)
 have H3 := Lib.hid (zaa H3.out hb)
 have HE := Lib.hid (HE.out.trans hb)
 clear hb
 have HZ := Lib.hid (Blk.made w5 zq 37)
 have HEA := Lib.hid (Ext.alloc w5 (.cells zq.toArray 37))
 have HL : Hid ((ptF esZero).length = zq.length) := Lib.hid ((zbb _).trans zq_length.symm)
 have HLT := Lib.hid (H3.out.lt)
 go_upto_region 2 with (refine zac rfl _ _ _ rfl w5.heap.size (ptF esZero) rfl rfl _ _ HZ.out HL.out (zaz _) (zch _) ?_; intro w7 hb hg)
 have HX := Lib.hid (zad HEA.out hg (Nat.le_refl _))
 obtain ⟨po, hT⟩ : ∃ T, T = w5.heap.size := ⟨_, rfl⟩
 rw [← hT] at hb HLT ⊢
 clear hT
 have H1 := Lib.hid (zaa H1.out HX.out)
 have H2 := Lib.hid (zaa H2.out HX.out)
 have H3 := Lib.hid (zaa H3.out HX.out)
 have HE := Lib.hid (HE.out.trans HX.out)
 have HVo := Lib.hid hb
 clear hb hg HX HZ HEA HL
 generalize w7 = wo at *
 go_wp2_with fail
 go_loopw [6] (fun i wr => ∃ k : Nat, k ≤ 255 ∧ i = .int .i64 (254 - (k : Int)) ∧ Blk wr po (ptF (crun p (leN n) k)) 37 ∧ Blk wr A (n.map bval) 23 ∧ Blk wr (A + 1) (ptF p) 37 ∧ Blk wr (A + 1 + 1) zq 37 ∧ Ext w wr) (fun i _ => (intOf i + 1).toNat)
 case atStart => exact ⟨0, by omega, rfl, HVo.out, H1.out, H2.out, H3.out, HE.out⟩
 case round =>
  clear HVo H1 H2 H3 HE
  obtain ⟨k, hk, rfl, q1, q2, q3, q4, q5⟩ := hrel
  have i0' : (0 : Int) ≤ (k : Int) := Int.natCast_nonneg _
  obtain ⟨s, hs⟩ : ∃ s, s = crun p (leN n) k := ⟨_, rfl⟩
  rw [← hs] at q1
  have HVo := Lib.hid q1
  have H1 := Lib.hid q2
  have H2 := Lib.hid q3
  have H3 := Lib.hid q4
  have HE := Lib.hid q5
  clear q1 q2 q3 q4 q5
  by_cases hlt : k < 255
  ·have i1 : (0 : Int) ≤ 254 - (k : Int) := by omega
   obtain ⟨m, hm⟩ : ∃ m, m = 254 - k := ⟨_, rfl⟩
   have hmi : 254 - (k : Int) = (m : Int) := by omega
   obtain ⟨t, ht⟩ : ∃ t, t = (leN n).testBit m := ⟨_, rfl⟩
   have HST : Hid (crun p (leN n) (k + 1) = ES.pk t s.dbl (s.dbl.sum p)) := Lib.hid (by rw [crun, ← hm, ← ht, ← hs])
   have HTT := Lib.hid ht.symm
   have HMI := Lib.hid hmi
   have hmk : m ≤ 254 := by omega
   have HMK := Lib.hid hmk
   have HTB : Hid (decide (((t.toNat : Nat) : Int) = 1) = t) := Lib.hid (by cases t <;> rfl)
   clear ht hm hmi hmk hs
   go_wp2_with (first | (refine wpList_load_mid rfl _ _ rfl po 0 rfl _ _ (HVo.out.range) Tryz.underlying37 rfl (zaz _) ?_))
   refine (ctwice_f _ _).mono ?_
   rintro e wb ⟨rfl, hb⟩
   have H1 := Lib.hid (zaa H1.out hb)
   have H2 := Lib.hid (zaa H2.out hb)
   have H3 := Lib.hid (zaa H3.out hb)
   have HVo := Lib.hid (zaa HVo.out hb)
   have HE := Lib.hid (HE.out.trans hb)
   clear hb
   obtain ⟨sd, hsd⟩ : ∃ sd, sd = s.dbl := ⟨_, rfl⟩
   rw [← hsd]
   have HSD := Lib.hid hsd
   clear hsd
   have HL : Hid ((ptF sd).length = (ptF s).length) := Lib.hid (by rw [zbb, zbb])
   go_upto_region 6 with (refine zac rfl _ _ _ rfl po (ptF sd) rfl rfl _ _ HVo.out HL.out (zaz _) (zch _) ?_; intro wc hb2 hg2)
   have H1 := Lib.hid (H1.out.grown hg2 (by have := HLT.out; simp; omega))
   have H2 := Lib.hid (H2.out.grown hg2 (by have := HLT.out; simp; omega))
   have H3 := Lib.hid (H3.out.grown hg2 (by have := HLT.out; simp; omega))
   have HE := Lib.hid (zad HE.out hg2 (by have := HLT.out; have := HAW.out; omega))
   have HVo := Lib.hid hb2
   clear hb2 hg2 HL
   go_wp2_with fail
   refine zak 9 1 9 rfl (by kernel_rfl) (by kernel_rfl) (fun d v c a w h => by cases d <;> exact h) (by kernel_rfl) ?_
   refine zai _ _ po 0 (ptF sd) _ (by rfl) rfl rfl (fun w hw => (zaa HVo.out hw).range) Tryz.underlying37 rfl (zaz _) ?_
   simp only [Act.put, nrm]
   refine zai _ _ po 0 (ptF sd) _ (by rfl) rfl rfl (fun w hw => (zaa HVo.out hw).range) Tryz.underlying37 rfl (zaz _) ?_
   simp only [Act.put, nrm]
   refine zai _ _ (A + 1) 0 (ptF p) _ (by rfl) rfl rfl (fun w hw => (zaa H2.out hw).range) Tryz.underlying37 rfl (zaz _) ?_
   simp only [Act.put, nrm]
   refine zah _ _ _ [.agg (ptF sd).toArray, .agg (ptF p).toArray] (.agg (ptF (sd.sum p)).toArray) (by rfl) rfl Tryz.call47 rfl (fun w hw => csum_f w sd p (HGC.out.ext (HE.out.trans hw))) ?_
   simp only [Act.put, nrm]
   refine zai _ _ A 0 (n.map bval) _ (by rfl) rfl rfl (fun w hw => (zaa H1.out hw).range) Tryz.underlying23 rfl (zae HNL.out) ?_
   simp only [Act.put, nrm]
   refine zba _ (.int .i64 (m : Int)) (by rfl) rfl (by show Value.int .i64 (254 - (k : Int)) = _; rw [HMI.out]) ?_
   simp only [Act.put, nrm]
   refine zah _ _ _ [.agg (n.map bval).toArray, .int .i64 (m : Int)] (.int .u8 ((t.toNat : Nat) : Int)) (by rfl) rfl Tryz.call49 rfl (fun w hw => cbit_t n m w t HNL.out (by have := HMK.out; omega) HTT.out) ?_
   simp only [Act.put, nrm]
   refine det_eqi .u8 _ _ _ _ _ _ t (by rfl) rfl rfl rfl HTB.out ?_
   simp only [Act.put, nrm]
   refine zah _ _ _ [.agg (ptF sd).toArray, .agg (ptF (sd.sum p)).toArray, .bool t] (.agg (ptF (ES.pk t sd (sd.sum p))).toArray) (by rfl) rfl Tryz.call65 rfl (fun w hw => cpick_f w t sd (sd.sum p)) ?_
   simp only [Act.put, nrm]
   refine zaw (zdv (k := 9) _ _ _ _ po (ptF (ES.pk t sd (sd.sum p))) (ptF sd) rfl (by kernel_rfl) (by kernel_rfl) (by kernel_rfl) rfl rfl rfl rfl HVo.out (by rw [zbb, zbb]) (zaz _) (zch _) (fun w8 hb8 hg8 => ?_))
   simp only [Act.put]
   go_wp2_with fail
   go_roundw
   case rel =>
    refine ⟨k + 1, by omega, by go_num, by rw [HST.out, ← HSD.out]; exact hb8, H1.out.grown hg8 (by have := HLT.out; simp; omega), H2.out.grown hg8 (by have := HLT.out; simp; omega), H3.out.grown hg8 (by have := HLT.out; simp; omega), zad HE.out hg8 (by have := HLT.out; have := HAW.out; omega)⟩
   case measure => simp [intOf]; omega
  ·have hk' : k = 255 := by omega
   subst hk'
   have HS := Lib.hid hs
   clear hs
   have HL : Hid ((ptF s).length = zq.length) := Lib.hid ((zbb _).trans zq_length.symm)
   go_wp2_with (first | (refine wpList_load_mid rfl _ _ rfl po 0 rfl _ _ HVo.out.range Tryz.underlying37 rfl (zaz _) ?_) | (refine zac rfl _ _ _ rfl (A + 1 + 1) (ptF s) rfl rfl _ _ H3.out HL.out (zaz _) (zch _) ?_; intro w9 hb9 hg9))
   exact bodyPost_ret (zax (by rfl) _ (A + 1 + 1) _ _ _ (by rfl) hb9 Tryz.underlying37 rfl (zaz _)) rfl ⟨by rw [HS.out], zad HE.out hg9 (by have := HAW.out; omega)⟩
section
section
variable {P : Program} {ops : Array Oper} {Q : Exit → Act → World → Prop} {md : Region.Mode} {t : Nat} {C : World → Prop} {D : Act → Prop}
theorem det_indexm {o : Oper} {rest : List Oper} {a : Act} (ty e : TypeId) (x y : Operand) (c n sz : Nat) (k : IntKind) (j q : Nat) (hw : Region.wanted o (yielded ops a.tmps) = true) (ho : o.op = .indexAddr ty x y) (hx : a.eval x = .pointer (some ⟨c, 0, none⟩)) (hy : a.eval y = .int k (j : Int))
  (hu : P.underlying ty = some (.array n e)) (hj : j < n) (hs : ∀ w, (sizeOf e).run P w = .ok sz w) (hq : j * sz = q)
  (next : wpDet P ops C D rest (a.put o.dst (.pointer (some ⟨c, q, none⟩)))) : wpDet P ops C D (o :: rest) a :=
 zbd _ hw (fun w _ => by
  subst hq
  have h1 : (0 : Int) ≤ (j : Int) ∧ (j : Int) < (n : Int) := by omega
  unfold execOp
  simp [ho, hx, hy, Instr.indexAt, asIntOf, run_underlying hu, Instr.sureAddr, h1, hs, Addr.add_mid, hj]) next
end
def z4 : List Value := ints .u8 (List.replicate 512 0)
theorem z4_length : z4.length = 512 := by
 unfold z4
 rw [zab, List.length_replicate]
def st4 (p q r : ES) : List Value := zq ++ (ptF p ++ (ptF q ++ ptF r))
theorem st4_length (p q r : ES) : (st4 p q r).length = 512 := by simp [st4, zbb, zq_length]
theorem st4_one (p q r : ES) : ∀ v ∈ st4 p q r, v.oneCell' = true := by
 intro v hv
 simp only [st4, List.mem_append] at hv
 rcases hv with h | h | h | h
 ·exact zan _ _ v h
 ·exact zch _ v h
 ·exact zch _ v h
 ·exact zch _ v h
theorem Tryz.arr71 : (Tryz.prog.info? 71).map (·.size) = some 512 := by kernel_rfl
theorem st4_size (p q r : ES) : (Tryz.prog.info? 71).map (·.size) = some (st4 p q r).length := by rw [st4_length]; exact Tryz.arr71
theorem zero_st4 (w : World) : (zeroValue 71).run Tryz.prog w = .ok (.agg z4.toArray) w := by kernel_rfl
theorem size_cpt (w : World) : (sizeOf 37).run Tryz.prog w = .ok 128 w := by kernel_rfl
theorem st4_at1 {w : World} {c : Nat} {p q r : ES} (h : w.rangeAt c 0 (st4 p q r)) : w.rangeAt c 128 (ptF p) := rng_lo (rng_hi h zq_length rfl)
theorem st4_at2 {w : World} {c : Nat} {p q r : ES} (h : w.rangeAt c 0 (st4 p q r)) : w.rangeAt c 256 (ptF q) := rng_lo (rng_hi (rng_hi h zq_length rfl) (zbb _) rfl)
theorem st4_at3 {w : World} {c : Nat} {p q r : ES} (h : w.rangeAt c 0 (st4 p q r)) : w.rangeAt c 384 (ptF r) := rng_hi (rng_hi (rng_hi h zq_length rfl) (zbb _) rfl) (zbb _) rfl
theorem z4_parts : z4 = zq ++ (zq ++ (zq ++ zq)) := by
 unfold z4 zq ints
 rw [← List.map_append, ← List.map_append, ← List.map_append, List.replicate_append_replicate, List.replicate_append_replicate, List.replicate_append_replicate]
theorem fill_st4 {place : Nat → Option (Nat × Nat)} (p1 : place 1 = some (128, 128)) (p2 : place 2 = some (256, 128)) (p3 : place 3 = some (384, 128)) (p q r : ES) :
  Instr.fill place z4.toArray [(1, .agg (ptF p).toArray), (2, .agg (ptF q).toArray), (3, .agg (ptF r).toArray)] = some (st4 p q r).toArray := by
 rw [z4_parts, zfb (off := 128) (n := 128) p1 zq_length zq_length (zbb p)]
 rw [show zq ++ (ptF p ++ (zq ++ zq)) = (zq ++ ptF p) ++ (zq ++ zq) by simp, zfb (off := 256) (n := 128) p2 (by simp [zq_length, zbb]) zq_length (zbb q)]
 rw [show (zq ++ ptF p) ++ (ptF q ++ zq) = (zq ++ ptF p ++ ptF q) ++ (zq ++ []) by simp, zfb (off := 384) (n := 128) p3 (by simp [zq_length, zbb]) zq_length (zbb r)]
 rw [Instr.fill]
 simp [st4]
theorem build_st4 (p q r : ES) (w : World) : (Instr.build 71 #[(1, .agg (ptF p).toArray), (2, .agg (ptF q).toArray), (3, .agg (ptF r).toArray)]).run Tryz.prog w = .ok (.agg (st4 p q r).toArray) w := by
 refine run_build w _ _ _ ?_
 refine Eq.trans ?_ (fill_st4 (place := fun i => (#[(0, 128), (128, 128), (256, 128), (384, 128)] : Array (Nat × Nat))[i]?) rfl rfl rfl p q r)
 kernel_rfl
set_option maxRecDepth 100000 in
set_option maxHeartbeats 4000000 in
theorem ctogether_f (w : World) (m n : List UInt8) (p q : ES) (hm : m.length = 32) (hn : n.length = 32) (hG : GlobC w) : Calls Tryz.prog 18 #[.agg (m.map bval).toArray, .agg (ptF p).toArray, .agg (n.map bval).toArray, .agg (ptF q).toArray] w fun e w' => e = .returned (.agg (ptF (trun p q (leN m) (leN n) 255)).toArray) ∧ Below w.heap.size w w' := by
 have HML := Lib.hid hm
 have HNL := Lib.hid hn
 clear hm hn
 have HGC := Lib.hid hG
 clear hG
 have HB := Lib.hid (boxes5 w (m.map bval) (ptF p) (n.map bval) (ptF q) zq 23 37 23 37 37)
 go_enter Tryz.func18, Tryz.ntmps18
 go_upto_region 1 with (fail)
 obtain ⟨H1, H2, H3, H4, H5, HE⟩ := HB.out
 change Code.wp _ _ _ _ (World.alloc (World.alloc (World.alloc (World.alloc (World.alloc w (.cells (m.map bval).toArray 23)) (.cells (ptF p).toArray 37)) (.cells (n.map bval).toArray 23)) (.cells (ptF q).toArray 37)) (.cells zq.toArray 37))
 generalize (World.alloc (World.alloc (World.alloc (World.alloc (World.alloc w (.cells (m.map bval).toArray 23)) (.cells (ptF p).toArray 37)) (.cells (n.map bval).toArray 23)) (.cells (ptF q).toArray 37)) (.cells zq.toArray 37)) = wa at *
 obtain ⟨A, hA⟩ : ∃ A, A = w.heap.size := ⟨_, rfl⟩
 have HAW : Hid (w.heap.size ≤ A) := Lib.hid (by omega)
 rw [← hA] at H1 H2 H3 H4 H5 ⊢
 have H1 := Lib.hid H1
 have H2 := Lib.hid H2
 have H3 := Lib.hid H3
 have H4 := Lib.hid H4
 have H5 := Lib.hid H5
 have HE : Hid (Ext w wa) := Lib.hid HE
 clear hA HB
 go_wp2_with fail
 refine (czero_f _).mono ?_
 rintro e w5 ⟨rfl, hb⟩
 have H1 := Lib.hid (zaa H1.out hb)
 have H2 := Lib.hid (zaa H2.out hb)
 have H3 := Lib.hid (zaa H3.out hb)
 have H4 := Lib.hid (zaa H4.out hb)
 have H5 := Lib.hid (zaa H5.out hb)
 have HE := Lib.hid (HE.out.trans hb)
 clear hb
 have HZ := Lib.hid (Blk.made w5 zq 37)
 have HEA := Lib.hid (Ext.alloc w5 (.cells zq.toArray 37))
 have HL : Hid ((ptF esZero).length = zq.length) := Lib.hid ((zbb _).trans zq_length.symm)
 have HLT := Lib.hid (H5.out.lt)
 go_upto_region 2 with (refine zac rfl _ _ _ rfl w5.heap.size (ptF esZero) rfl rfl _ _ HZ.out HL.out (zaz _) (zch _) ?_; intro w7 hb hg)
 have HX := Lib.hid (zad HEA.out hg (Nat.le_refl _))
 obtain ⟨po, hT⟩ : ∃ T, T = w5.heap.size := ⟨_, rfl⟩
 rw [← hT] at hb HLT ⊢
 clear hT
 have H1 := Lib.hid (zaa H1.out HX.out)
 have H2 := Lib.hid (zaa H2.out HX.out)
 have H3 := Lib.hid (zaa H3.out HX.out)
 have H4 := Lib.hid (zaa H4.out HX.out)
 have H5 := Lib.hid (zaa H5.out HX.out)
 have HE := Lib.hid (HE.out.trans HX.out)
 have HVo := Lib.hid hb
 clear hb hg HX HZ HEA HL
 generalize w7 = wo at *
 go_wp2_with fail
 refine zak 6 2 7 rfl (by kernel_rfl) (by kernel_rfl) (fun d v c a w h => by cases d <;> exact h) (by kernel_rfl) ?_
 have HLO := Lib.hid HVo.out.lt
 refine zai _ _ (A + 1) 0 (ptF p) _ (by rfl) rfl rfl (fun w hw => (zaa H2.out hw).range) Tryz.underlying37 rfl (zaz _) ?_
 simp only [Act.put, nrm]
 refine zai _ _ (A + 1 + 1 + 1) 0 (ptF q) _ (by rfl) rfl rfl (fun w hw => (zaa H4.out hw).range) Tryz.underlying37 rfl (zaz _) ?_
 simp only [Act.put, nrm]
 refine zai _ _ (A + 1) 0 (ptF p) _ (by rfl) rfl rfl (fun w hw => (zaa H2.out hw).range) Tryz.underlying37 rfl (zaz _) ?_
 simp only [Act.put, nrm]
 refine zai _ _ (A + 1 + 1 + 1) 0 (ptF q) _ (by rfl) rfl rfl (fun w hw => (zaa H4.out hw).range) Tryz.underlying37 rfl (zaz _) ?_
 simp only [Act.put, nrm]
 refine zah _ _ _ [.agg (ptF p).toArray, .agg (ptF q).toArray] (.agg (ptF (p.sum q)).toArray) (by rfl) rfl Tryz.call47 rfl (fun w hw => csum_f w p q (HGC.out.ext (HE.out.trans hw))) ?_
 simp only [Act.put, nrm]
 refine zef _ _ #[(1, .agg (ptF p).toArray), (2, .agg (ptF q).toArray), (3, .agg (ptF (p.sum q)).toArray)] (.agg (st4 p q (p.sum q)).toArray) (by rfl) rfl (by simp [Act.eval]) (fun w => build_st4 p q (p.sum q) w) ?_
 simp only [Act.put, nrm]
 refine zaw (zel (k := 6) _ 10 (.tmp 19) z4 (st4 p q (p.sum q)) rfl rfl (by kernel_rfl) (by kernel_rfl) (by kernel_rfl) (by kernel_rfl) (by kernel_rfl) rfl rfl rfl rfl (fun w => zero_st4 w) rfl (by simp) (fun p => rfl) ((st4_length _ _ _).trans z4_length.symm) (st4_size _ _ _) (st4_one _ _ _) (fun pg wg hp hb he => ?_))
 try simp only [Act.put, nrm]
 have H1 := Lib.hid (zaa H1.out he)
 have H2 := Lib.hid (zaa H2.out he)
 have H3 := Lib.hid (zaa H3.out he)
 have H4 := Lib.hid (zaa H4.out he)
 have H5 := Lib.hid (zaa H5.out he)
 have HVo := Lib.hid (zaa HVo.out he)
 have HE := Lib.hid (HE.out.trans he)
 have HPg := Lib.hid hp
 clear he hp
 have HVg := Lib.hid hb
 clear hb
 have HOG : Hid (po < pg) := Lib.hid (Nat.lt_of_lt_of_le HLO.out HPg.out)
 go_wp2_with fail
 go_loopw [11, 12] (fun i u wr => ∃ k : Nat, k ≤ 255 ∧ i = .int .i64 (254 - (k : Int)) ∧ Blk wr po (ptF (trun p q (leN m) (leN n) k)) 37 ∧ Blk wr pg (st4 p q (p.sum q)) 71 ∧ Blk wr A (m.map bval) 23 ∧ Blk wr (A + 1) (ptF p) 37 ∧ Blk wr (A + 1 + 1) (n.map bval) 23 ∧ Blk wr (A + 1 + 1 + 1) (ptF q) 37 ∧ Blk wr (A + 1 + 1 + 1 + 1) zq 37 ∧ Ext w wr) (fun i _ _ => (intOf i + 1).toNat)
 case atStart => exact ⟨0, by omega, rfl, HVo.out, HVg.out, H1.out, H2.out, H3.out, H4.out, H5.out, HE.out⟩
 case round =>
  clear HVo HVg H1 H2 H3 H4 H5 HE
  obtain ⟨k, hk, rfl, q1, q2, q3, q4, q5, q6, q7, q8⟩ := hrel
  have i0' : (0 : Int) ≤ (k : Int) := Int.natCast_nonneg _
  obtain ⟨s, hs⟩ : ∃ s, s = trun p q (leN m) (leN n) k := ⟨_, rfl⟩
  rw [← hs] at q1
  have HVo := Lib.hid q1
  have HVg := Lib.hid q2
  have H1 := Lib.hid q3
  have H2 := Lib.hid q4
  have H3 := Lib.hid q5
  have H4 := Lib.hid q6
  have H5 := Lib.hid q7
  have HE := Lib.hid q8
  clear q1 q2 q3 q4 q5 q6 q7 q8
  by_cases hlt : k < 255
  ·have i1 : (0 : Int) ≤ 254 - (k : Int) := by omega
   obtain ⟨j, hj⟩ : ∃ j, j = 254 - k := ⟨_, rfl⟩
   have hmi : 254 - (k : Int) = (j : Int) := by omega
   have HST : Hid (trun p q (leN m) (leN n) (k + 1) = tstep p q s.dbl ((leN m).testBit j) ((leN n).testBit j)) := Lib.hid (by rw [trun, ← hj, ← hs])
   have HMI := Lib.hid hmi
   have hmk : j ≤ 254 := by omega
   have HMK := Lib.hid hmk
   clear hj hmi hmk hs
   go_wp2_with (first | (refine wpList_load_mid rfl _ _ rfl po 0 rfl _ _ (HVo.out.range) Tryz.underlying37 rfl (zaz _) ?_))
   refine (ctwice_f _ _).mono ?_
   rintro e wb ⟨rfl, hb⟩
   have H1 := Lib.hid (zaa H1.out hb)
   have H2 := Lib.hid (zaa H2.out hb)
   have H3 := Lib.hid (zaa H3.out hb)
   have H4 := Lib.hid (zaa H4.out hb)
   have H5 := Lib.hid (zaa H5.out hb)
   have HVg := Lib.hid (zaa HVg.out hb)
   have HVo := Lib.hid (zaa HVo.out hb)
   have HE := Lib.hid (HE.out.trans hb)
   clear hb
   obtain ⟨sd, hsd⟩ : ∃ sd, sd = s.dbl := ⟨_, rfl⟩
   rw [← hsd]
   rw [← hsd] at HST
   clear hsd
   have HL : Hid ((ptF sd).length = (ptF s).length) := Lib.hid (by rw [zbb, zbb])
   go_upto_region 7 with (refine zac rfl _ _ _ rfl po (ptF sd) rfl rfl _ _ HVo.out HL.out (zaz _) (zch _) ?_; intro wc hb2 hg2)
   have H1 := Lib.hid (H1.out.grown hg2 (by have := HLT.out; simp; omega))
   have H2 := Lib.hid (H2.out.grown hg2 (by have := HLT.out; simp; omega))
   have H3 := Lib.hid (H3.out.grown hg2 (by have := HLT.out; simp; omega))
   have H4 := Lib.hid (H4.out.grown hg2 (by have := HLT.out; simp; omega))
   have H5 := Lib.hid (H5.out.grown hg2 (by have := HLT.out; simp; omega))
   have HVg := Lib.hid (HVg.out.grown hg2 (by have := HOG.out; simp; omega))
   have HE := Lib.hid (zad HE.out hg2 (by have := HLT.out; have := HAW.out; omega))
   have HVo := Lib.hid hb2
   clear hb2 hg2 HL
   obtain ⟨ta, hta⟩ : ∃ ta, (leN m).testBit j = ta := ⟨_, rfl⟩
   obtain ⟨tb, htb⟩ : ∃ tb, (leN n).testBit j = tb := ⟨_, rfl⟩
   rw [hta, htb] at HST
   have HTA := Lib.hid hta
   have HTB := Lib.hid htb
   clear hta htb
   cases ta <;> cases tb
   ·go_wp2_with fail
    refine zbh (by kernel_rfl) (by kernel_rfl) ?_
    refine zai _ _ A 0 (m.map bval) _ (by rfl) rfl rfl (fun w hw => (zaa H1.out hw).range) Tryz.underlying23 rfl (zae HML.out) ?_
    simp only [Act.put, nrm]
    refine zba _ (.int .i64 (j : Int)) (by rfl) rfl (by show Value.int .i64 (254 - (k : Int)) = _; rw [HMI.out]) ?_
    simp only [Act.put, nrm]
    refine zah _ _ _ [.agg (m.map bval).toArray, .int .i64 (j : Int)] (.int .u8 0) (by rfl) rfl Tryz.call49 rfl (fun w hw => cbit_t m j w false HML.out (by have := HMK.out; omega) HTA.out) ?_
    simp only [Act.put, nrm]
    refine zai _ _ (A + 1 + 1) 0 (n.map bval) _ (by rfl) rfl rfl (fun w hw => (zaa H3.out hw).range) Tryz.underlying23 rfl (zae HNL.out) ?_
    simp only [Act.put, nrm]
    refine zba _ (.int .i64 (j : Int)) (by rfl) rfl (by show Value.int .i64 (254 - (k : Int)) = _; rw [HMI.out]) ?_
    simp only [Act.put, nrm]
    refine zah _ _ _ [.agg (n.map bval).toArray, .int .i64 (j : Int)] (.int .u8 0) (by rfl) rfl Tryz.call49 rfl (fun w hw => cbit_t n j w false HNL.out (by have := HMK.out; omega) HTB.out) ?_
    simp only [Act.put, nrm]
    refine zfc _ _ _ _ .u8 .u64 0 0 1 (by rfl) rfl rfl rfl (by decide) (by decide) ?_
    simp only [Act.put, nrm]
    refine det_or _ _ _ _ .u8 0 0 0 (by rfl) rfl rfl rfl (by decide) ?_
    simp only [Act.put, nrm]
    refine zbl _ (.int .u8 0) (by rfl) rfl rfl ?_
    simp only [Act.put, nrm]
    refine zaw (fun wd hwd => ?_)
    have H1 := Lib.hid (zaa H1.out hwd)
    have H2 := Lib.hid (zaa H2.out hwd)
    have H3 := Lib.hid (zaa H3.out hwd)
    have H4 := Lib.hid (zaa H4.out hwd)
    have H5 := Lib.hid (zaa H5.out hwd)
    have HVg := Lib.hid (zaa HVg.out hwd)
    have HVo := Lib.hid (zaa HVo.out hwd)
    have HE := Lib.hid (HE.out.trans hwd)
    clear hwd
    go_wp2_with fail
    go_roundw
    case rel => exact ⟨k + 1, by omega, by go_num, by rw [HST.out]; exact HVo.out, HVg.out, H1.out, H2.out, H3.out, H4.out, H5.out, HE.out⟩
    case measure => simp [intOf]; omega
   ·go_wp2_with fail
    refine zbh (by kernel_rfl) (by kernel_rfl) ?_
    refine zai _ _ A 0 (m.map bval) _ (by rfl) rfl rfl (fun w hw => (zaa H1.out hw).range) Tryz.underlying23 rfl (zae HML.out) ?_
    simp only [Act.put, nrm]
    refine zba _ (.int .i64 (j : Int)) (by rfl) rfl (by show Value.int .i64 (254 - (k : Int)) = _; rw [HMI.out]) ?_
    simp only [Act.put, nrm]
    refine zah _ _ _ [.agg (m.map bval).toArray, .int .i64 (j : Int)] (.int .u8 0) (by rfl) rfl Tryz.call49 rfl (fun w hw => cbit_t m j w false HML.out (by have := HMK.out; omega) HTA.out) ?_
    simp only [Act.put, nrm]
    refine zai _ _ (A + 1 + 1) 0 (n.map bval) _ (by rfl) rfl rfl (fun w hw => (zaa H3.out hw).range) Tryz.underlying23 rfl (zae HNL.out) ?_
    simp only [Act.put, nrm]
    refine zba _ (.int .i64 (j : Int)) (by rfl) rfl (by show Value.int .i64 (254 - (k : Int)) = _; rw [HMI.out]) ?_
    simp only [Act.put, nrm]
    refine zah _ _ _ [.agg (n.map bval).toArray, .int .i64 (j : Int)] (.int .u8 1) (by rfl) rfl Tryz.call49 rfl (fun w hw => cbit_t n j w true HNL.out (by have := HMK.out; omega) HTB.out) ?_
    simp only [Act.put, nrm]
    refine zfc _ _ _ _ .u8 .u64 1 2 1 (by rfl) rfl rfl rfl (by decide) (by decide) ?_
    simp only [Act.put, nrm]
    refine det_or _ _ _ _ .u8 0 2 2 (by rfl) rfl rfl rfl (by decide) ?_
    simp only [Act.put, nrm]
    refine zbl _ (.int .u8 2) (by rfl) rfl rfl ?_
    simp only [Act.put, nrm]
    refine zaw (fun wd hwd => ?_)
    have H1 := Lib.hid (zaa H1.out hwd)
    have H2 := Lib.hid (zaa H2.out hwd)
    have H3 := Lib.hid (zaa H3.out hwd)
    have H4 := Lib.hid (zaa H4.out hwd)
    have H5 := Lib.hid (zaa H5.out hwd)
    have HVg := Lib.hid (zaa HVg.out hwd)
    have HVo := Lib.hid (zaa HVo.out hwd)
    have HE := Lib.hid (HE.out.trans hwd)
    clear hwd
    go_wp2_with fail
    refine zak 5 1 5 rfl (by kernel_rfl) (by kernel_rfl) (fun d v c a w h => by cases d <;> exact h) (by kernel_rfl) ?_
    refine zai _ _ po 0 (ptF sd) _ (by rfl) rfl rfl (fun w hw => (zaa HVo.out hw).range) Tryz.underlying37 rfl (zaz _) ?_
    simp only [Act.put, nrm]
    refine zba _ (.int .u8 2) (by rfl) rfl rfl ?_
    simp only [Act.put, nrm]
    refine det_indexm _ 37 _ _ pg 4 128 .u8 2 256 (by rfl) rfl rfl rfl Tryz.underlying71 (by decide) size_cpt rfl ?_
    simp only [Act.put, nrm]
    refine zai _ _ pg 256 (ptF q) _ (by rfl) rfl rfl (fun w hw => st4_at2 (zaa HVg.out hw).range) Tryz.underlying37 rfl (zaz _) ?_
    simp only [Act.put, nrm]
    refine zah _ _ _ [.agg (ptF sd).toArray, .agg (ptF q).toArray] (.agg (ptF (sd.sum q)).toArray) (by rfl) rfl Tryz.call47 rfl (fun w hw => csum_f w sd q (HGC.out.ext (HE.out.trans hw))) ?_
    simp only [Act.put, nrm]
    refine zaw (zdv (k := 5) _ _ _ _ po (ptF (sd.sum q)) (ptF sd) rfl (by kernel_rfl) (by kernel_rfl) (by kernel_rfl) rfl rfl rfl rfl HVo.out (by rw [zbb, zbb]) (zaz _) (zch _) (fun w8 hb8 hg8 => ?_))
    simp only [Act.put]
    go_wp2_with fail
    go_roundw
    case rel =>
     refine ⟨k + 1, by omega, by go_num, by rw [HST.out]; exact hb8, HVg.out.grown hg8 (by have := HOG.out; simp; omega), H1.out.grown hg8 (by have := HLT.out; simp; omega), H2.out.grown hg8 (by have := HLT.out; simp; omega), H3.out.grown hg8 (by have := HLT.out; simp; omega), H4.out.grown hg8 (by have := HLT.out; simp; omega), H5.out.grown hg8 (by have := HLT.out; simp; omega), zad HE.out hg8 (by have := HLT.out; have := HAW.out; omega)⟩
    case measure => simp [intOf]; omega
   ·go_wp2_with fail
    refine zbh (by kernel_rfl) (by kernel_rfl) ?_
    refine zai _ _ A 0 (m.map bval) _ (by rfl) rfl rfl (fun w hw => (zaa H1.out hw).range) Tryz.underlying23 rfl (zae HML.out) ?_
    simp only [Act.put, nrm]
    refine zba _ (.int .i64 (j : Int)) (by rfl) rfl (by show Value.int .i64 (254 - (k : Int)) = _; rw [HMI.out]) ?_
    simp only [Act.put, nrm]
    refine zah _ _ _ [.agg (m.map bval).toArray, .int .i64 (j : Int)] (.int .u8 1) (by rfl) rfl Tryz.call49 rfl (fun w hw => cbit_t m j w true HML.out (by have := HMK.out; omega) HTA.out) ?_
    simp only [Act.put, nrm]
    refine zai _ _ (A + 1 + 1) 0 (n.map bval) _ (by rfl) rfl rfl (fun w hw => (zaa H3.out hw).range) Tryz.underlying23 rfl (zae HNL.out) ?_
    simp only [Act.put, nrm]
    refine zba _ (.int .i64 (j : Int)) (by rfl) rfl (by show Value.int .i64 (254 - (k : Int)) = _; rw [HMI.out]) ?_
    simp only [Act.put, nrm]
    refine zah _ _ _ [.agg (n.map bval).toArray, .int .i64 (j : Int)] (.int .u8 0) (by rfl) rfl Tryz.call49 rfl (fun w hw => cbit_t n j w false HNL.out (by have := HMK.out; omega) HTB.out) ?_
    simp only [Act.put, nrm]
    refine zfc _ _ _ _ .u8 .u64 0 0 1 (by rfl) rfl rfl rfl (by decide) (by decide) ?_
    simp only [Act.put, nrm]
    refine det_or _ _ _ _ .u8 1 0 1 (by rfl) rfl rfl rfl (by decide) ?_
    simp only [Act.put, nrm]
    refine zbl _ (.int .u8 1) (by rfl) rfl rfl ?_
    simp only [Act.put, nrm]
    refine zaw (fun wd hwd => ?_)
    have H1 := Lib.hid (zaa H1.out hwd)
    have H2 := Lib.hid (zaa H2.out hwd)
    have H3 := Lib.hid (zaa H3.out hwd)
    have H4 := Lib.hid (zaa H4.out hwd)
    have H5 := Lib.hid (zaa H5.out hwd)
    have HVg := Lib.hid (zaa HVg.out hwd)
    have HVo := Lib.hid (zaa HVo.out hwd)
    have HE := Lib.hid (HE.out.trans hwd)
    clear hwd
    go_wp2_with fail
    refine zak 5 1 5 rfl (by kernel_rfl) (by kernel_rfl) (fun d v c a w h => by cases d <;> exact h) (by kernel_rfl) ?_
    refine zai _ _ po 0 (ptF sd) _ (by rfl) rfl rfl (fun w hw => (zaa HVo.out hw).range) Tryz.underlying37 rfl (zaz _) ?_
    simp only [Act.put, nrm]
    refine zba _ (.int .u8 1) (by rfl) rfl rfl ?_
    simp only [Act.put, nrm]
    refine det_indexm _ 37 _ _ pg 4 128 .u8 1 128 (by rfl) rfl rfl rfl Tryz.underlying71 (by decide) size_cpt rfl ?_
    simp only [Act.put, nrm]
    refine zai _ _ pg 128 (ptF p) _ (by rfl) rfl rfl (fun w hw => st4_at1 (zaa HVg.out hw).range) Tryz.underlying37 rfl (zaz _) ?_
    simp only [Act.put, nrm]
    refine zah _ _ _ [.agg (ptF sd).toArray, .agg (ptF p).toArray] (.agg (ptF (sd.sum p)).toArray) (by rfl) rfl Tryz.call47 rfl (fun w hw => csum_f w sd p (HGC.out.ext (HE.out.trans hw))) ?_
    simp only [Act.put, nrm]
    refine zaw (zdv (k := 5) _ _ _ _ po (ptF (sd.sum p)) (ptF sd) rfl (by kernel_rfl) (by kernel_rfl) (by kernel_rfl) rfl rfl rfl rfl HVo.out (by rw [zbb, zbb]) (zaz _) (zch _) (fun w8 hb8 hg8 => ?_))
    simp only [Act.put]
    go_wp2_with fail
    go_roundw
    case rel =>
     refine ⟨k + 1, by omega, by go_num, by rw [HST.out]; exact hb8, HVg.out.grown hg8 (by have := HOG.out; simp; omega), H1.out.grown hg8 (by have := HLT.out; simp; omega), H2.out.grown hg8 (by have := HLT.out; simp; omega), H3.out.grown hg8 (by have := HLT.out; simp; omega), H4.out.grown hg8 (by have := HLT.out; simp; omega), H5.out.grown hg8 (by have := HLT.out; simp; omega), zad HE.out hg8 (by have := HLT.out; have := HAW.out; omega)⟩
    case measure => simp [intOf]; omega
   ·go_wp2_with fail
    refine zbh (by kernel_rfl) (by kernel_rfl) ?_
    refine zai _ _ A 0 (m.map bval) _ (by rfl) rfl rfl (fun w hw => (zaa H1.out hw).range) Tryz.underlying23 rfl (zae HML.out) ?_
    simp only [Act.put, nrm]
    refine zba _ (.int .i64 (j : Int)) (by rfl) rfl (by show Value.int .i64 (254 - (k : Int)) = _; rw [HMI.out]) ?_
    simp only [Act.put, nrm]
    refine zah _ _ _ [.agg (m.map bval).toArray, .int .i64 (j : Int)] (.int .u8 1) (by rfl) rfl Tryz.call49 rfl (fun w hw => cbit_t m j w true HML.out (by have := HMK.out; omega) HTA.out) ?_
    simp only [Act.put, nrm]
    refine zai _ _ (A + 1 + 1) 0 (n.map bval) _ (by rfl) rfl rfl (fun w hw => (zaa H3.out hw).range) Tryz.underlying23 rfl (zae HNL.out) ?_
    simp only [Act.put, nrm]
    refine zba _ (.int .i64 (j : Int)) (by rfl) rfl (by show Value.int .i64 (254 - (k : Int)) = _; rw [HMI.out]) ?_
    simp only [Act.put, nrm]
    refine zah _ _ _ [.agg (n.map bval).toArray, .int .i64 (j : Int)] (.int .u8 1) (by rfl) rfl Tryz.call49 rfl (fun w hw => cbit_t n j w true HNL.out (by have := HMK.out; omega) HTB.out) ?_
    simp only [Act.put, nrm]
    refine zfc _ _ _ _ .u8 .u64 1 2 1 (by rfl) rfl rfl rfl (by decide) (by decide) ?_
    simp only [Act.put, nrm]
    refine det_or _ _ _ _ .u8 1 2 3 (by rfl) rfl rfl rfl (by decide) ?_
    simp only [Act.put, nrm]
    refine zbl _ (.int .u8 3) (by rfl) rfl rfl ?_
    simp only [Act.put, nrm]
    refine zaw (fun wd hwd => ?_)
    have H1 := Lib.hid (zaa H1.out hwd)
    have H2 := Lib.hid (zaa H2.out hwd)
    have H3 := Lib.hid (zaa H3.out hwd)
    have H4 := Lib.hid (zaa H4.out hwd)
    have H5 := Lib.hid (zaa H5.out hwd)
    have HVg := Lib.hid (zaa HVg.out hwd)
    have HVo := Lib.hid (zaa HVo.out hwd)
    have HE := Lib.hid (HE.out.trans hwd)
    clear hwd
    go_wp2_with fail
    refine zak 5 1 5 rfl (by kernel_rfl) (by kernel_rfl) (fun d v c a w h => by cases d <;> exact h) (by kernel_rfl) ?_
    refine zai _ _ po 0 (ptF sd) _ (by rfl) rfl rfl (fun w hw => (zaa HVo.out hw).range) Tryz.underlying37 rfl (zaz _) ?_
    simp only [Act.put, nrm]
    refine zba _ (.int .u8 3) (by rfl) rfl rfl ?_
    simp only [Act.put, nrm]
    refine det_indexm _ 37 _ _ pg 4 128 .u8 3 384 (by rfl) rfl rfl rfl Tryz.underlying71 (by decide) size_cpt rfl ?_
    simp only [Act.put, nrm]
    refine zai _ _ pg 384 (ptF (p.sum q)) _ (by rfl) rfl rfl (fun w hw => st4_at3 (zaa HVg.out hw).range) Tryz.underlying37 rfl (zaz _) ?_
    simp only [Act.put, nrm]
    refine zah _ _ _ [.agg (ptF sd).toArray, .agg (ptF (p.sum q)).toArray] (.agg (ptF (sd.sum (p.sum q))).toArray) (by rfl) rfl Tryz.call47 rfl (fun w hw => csum_f w sd (p.sum q) (HGC.out.ext (HE.out.trans hw))) ?_
    simp only [Act.put, nrm]
    refine zaw (zdv (k := 5) _ _ _ _ po (ptF (sd.sum (p.sum q))) (ptF sd) rfl (by kernel_rfl) (by kernel_rfl) (by kernel_rfl) rfl rfl rfl rfl HVo.out (by rw [zbb, zbb]) (zaz _) (zch _) (fun w8 hb8 hg8 => ?_))
    simp only [Act.put]
    go_wp2_with fail
    go_roundw
    case rel =>
     refine ⟨k + 1, by omega, by go_num, by rw [HST.out]; exact hb8, HVg.out.grown hg8 (by have := HOG.out; simp; omega), H1.out.grown hg8 (by have := HLT.out; simp; omega), H2.out.grown hg8 (by have := HLT.out; simp; omega), H3.out.grown hg8 (by have := HLT.out; simp; omega), H4.out.grown hg8 (by have := HLT.out; simp; omega), H5.out.grown hg8 (by have := HLT.out; simp; omega), zad HE.out hg8 (by have := HLT.out; have := HAW.out; omega)⟩
    case measure => simp [intOf]; omega
  ·have hk' : k = 255 := by omega
   subst hk'
   have HS := Lib.hid hs
   clear hs
   have HL : Hid ((ptF s).length = zq.length) := Lib.hid ((zbb _).trans zq_length.symm)
   go_wp2_with (first | (refine wpList_load_mid rfl _ _ rfl po 0 rfl _ _ HVo.out.range Tryz.underlying37 rfl (zaz _) ?_) | (refine zac rfl _ _ _ rfl (A + 1 + 1 + 1 + 1) (ptF s) rfl rfl _ _ H5.out HL.out (zaz _) (zch _) ?_; intro w9 hb9 hg9))
   exact bodyPost_ret (zax (by rfl) _ (A + 1 + 1 + 1 + 1) _ _ _ (by rfl) hb9 Tryz.underlying37 rfl (zaz _)) rfl ⟨by rw [HS.out], zad HE.out hg9 (by have := HAW.out; omega)⟩
end
theorem run_arr_at {P : Program} {arr e : TypeId} {n : Nat} (hu : P.underlying arr = some (.array n e)) (a : Option Addr) (len cap : Nat) (h : n ≤ len) (w : World) :
  (Instr.arrayAt arr (.slice a len cap)).run P w = .ok (.pointer a) w := by
 unfold Instr.arrayAt
 simp [run_underlying hu, show ¬ len < n by omega]
theorem crv_Sum_one (l : List UInt8) (x : Value) (w : World) (hx : Row1 w x (l.map bval)) (hl : l.length ≤ 1099511627776) (hG : GlobRQ w) :
  Calls Tryz.prog 44 #[.slice (some ⟨w.heap.size, 0, none⟩) 1 1] (w.alloc (.cells #[x] 26)) fun e w' => e = .returned (.agg ((sha512 l).map bval).toArray) ∧ Below w.heap.size w w' := by
 have he := Ext.alloc w (.cells #[x] 26)
 have h := Sum_numQ _ [l] _ (rowB1 (Row1.made w #[x] 26 _ 1 [x] rfl rfl rfl (by unfold maxLen; omega)) (hx.below he)) (by simpa using hl) (hG.ext he)
 refine h.mono ?_
 rintro e w' ⟨h1, h2⟩
 rw [show [l].flatten = l from by simp] at h1
 exact ⟨h1, he.trans h2⟩
theorem results_cell_cell {fn : Func} {p u : Tmp} {ty ty2 : TypeId} (h : fn.results = #[.cell p ty, .cell u ty2]) (tmps : Array Value) (P : Program) (w : World) :
  (results fn tmps).run P w =
   ((asAddr (tmps.getD p undef)).run P w).andThen fun a w₁ => ((loadVar ty a).run P w₁).andThen fun v w₂ => ((asAddr (tmps.getD u undef)).run P w₂).andThen fun b w₃ => ((loadVar ty2 b).run P w₃).andThen fun x w₄ => .ok (.tuple #[v, x]) w₄ := by
 simp only [results, h]
 simp [Sem.run_bind, Result.andThen]
theorem result_two {P : Program} {w : World} {fn : Func} {p u : Tmp} {ty : TypeId} (h : fn.results = #[.cell p ty, .cell u ty]) (tmps : Array Value) (c c2 : Nat) (tb tb2 : TypeId) (cs cs2 : List Value) (d : TypeDesc)
  (hp : tmps.getD p undef = .pointer (some ⟨c, 0, none⟩)) (hq : tmps.getD u undef = .pointer (some ⟨c2, 0, none⟩)) (hb : Blk w c cs tb) (hb2 : Blk w c2 cs2 tb2) (hu : P.underlying ty = some d) (hd : d.isRow = true) (hi : (P.info? ty).map (·.size) = some cs.length) (hi2 : (P.info? ty).map (·.size) = some cs2.length) :
  (results fn tmps).run P w = .ok (.tuple #[.agg cs.toArray, .agg cs2.toArray]) w := by
 rw [results_cell_cell h, hp, hq]
 simp only [asAddr, Sem.run_pure, Result.andThen_ok, run_loadVar_mid w c 0 ty cs d hb.range hu hd hi, run_loadVar_mid w c2 0 ty cs2 d hb2.range hu hd hi2]
set_option maxRecDepth 100000 in
set_option maxHeartbeats 8000000 in
theorem csecrets_f (sd : List UInt8) (w : World) (hs : sd.length = 32) (hR : GlobRQ w) : Calls Tryz.prog 31 #[.agg (sd.map bval).toArray] w fun e w' => e = .returned (.tuple #[.agg ((secA sd).map bval).toArray, .agg ((secH sd).map bval).toArray]) ∧ Below w.heap.size w w' := by
 have HSL := Lib.hid hs
 have HGR := Lib.hid hR
 clear hs hR
 have HB := Lib.hid (boxes3 w (sd.map bval) (ints .u8 (List.replicate 32 0)) (ints .u8 (List.replicate 32 0)) 23 23 23)
 go_enter Tryz.func31, Tryz.ntmps31
 go_upto_region 1 with (fail)
 obtain ⟨H1, H2, H3, HE⟩ := HB.out
 change Code.wp _ _ _ _ (World.alloc (World.alloc (World.alloc w (.cells (sd.map bval).toArray 23)) (.cells (ints .u8 (List.replicate 32 0)).toArray 23)) (.cells (ints .u8 (List.replicate 32 0)).toArray 23))
 generalize (World.alloc (World.alloc (World.alloc w (.cells (sd.map bval).toArray 23)) (.cells (ints .u8 (List.replicate 32 0)).toArray 23)) (.cells (ints .u8 (List.replicate 32 0)).toArray 23)) = wa at *
 obtain ⟨A, hA⟩ : ∃ A, A = w.heap.size := ⟨_, rfl⟩
 have HAW : Hid (w.heap.size ≤ A) := Lib.hid (by omega)
 rw [← hA] at H1 H2 H3 ⊢
 have H1 := Lib.hid H1
 have H2 := Lib.hid H2
 have H3 := Lib.hid H3
 have HE : Hid (Ext w wa) := Lib.hid HE
 clear hA HB
 go_wp2_with fail
 refine (crv_Sum_one sd _ wa (zcc (n := 32) H1.out (by rw [List.length_map]; exact HSL.out) (by unfold maxLen; omega)) (by rw [HSL.out]; omega) (HGR.out.ext HE.out)).mono ?_
 rintro e w6 ⟨rfl, hb⟩
 have H2 := Lib.hid (zaa H2.out hb)
 have H3 := Lib.hid (zaa H3.out hb)
 have HE := Lib.hid (HE.out.trans hb)
 clear hb H1
 obtain ⟨dg, hdg⟩ : ∃ dg, dg = sha512 sd := ⟨_, rfl⟩
 rw [← hdg]
 have HDL : Hid (dg.length = 64) := Lib.hid (by rw [hdg]; exact zbx sd)
 have HA1 : Hid (clampB (dg.take 32) = secA sd) := Lib.hid (by rw [hdg]; rfl)
 have HA2 : Hid (dg.drop 32 = secH sd) := Lib.hid (by rw [hdg]; rfl)
 clear hdg
 have HZ := Lib.hid (Blk.made w6 (ints .u8 (List.replicate 64 0)) 25)
 have HEA := Lib.hid (Ext.alloc w6 (.cells (ints .u8 (List.replicate 64 0)).toArray 25))
 have HLD : Hid ((dg.map bval).length = (ints .u8 (List.replicate 64 0)).length) := Lib.hid (by rw [List.length_map, HDL.out, zab]; rfl)
 have HLT := Lib.hid H3.out.lt
 go_upto_region 2 with (refine zac rfl _ _ _ rfl w6.heap.size (dg.map bval) rfl rfl _ _ HZ.out HLD.out (zce HDL.out) (zaj _) ?_; intro w7 hb hg)
 have HX := Lib.hid (zad HEA.out hg (Nat.le_refl _))
 obtain ⟨pd, hT⟩ : ∃ T, T = w6.heap.size := ⟨_, rfl⟩
 rw [← hT] at hb HLT ⊢
 clear hT
 have H2 := Lib.hid (zaa H2.out HX.out)
 have H3 := Lib.hid (zaa H3.out HX.out)
 have HE := Lib.hid (HE.out.trans HX.out)
 obtain ⟨dl, hdl⟩ : ∃ dl, dl = dg.take 32 := ⟨_, rfl⟩
 obtain ⟨dr, hdr⟩ : ∃ dr, dr = dg.drop 32 := ⟨_, rfl⟩
 have hsp : dg = dl ++ dr := by rw [hdl, hdr, List.take_append_drop]
 have HLL : Hid (dl.length = 32) := Lib.hid (by rw [hdl, List.length_take, HDL.out]; rfl)
 have HLR : Hid (dr.length = 32) := Lib.hid (by rw [hdr, List.length_drop, HDL.out])
 rw [← hdl] at HA1
 rw [← hdr] at HA2
 rw [hsp, List.map_append] at hb
 have HV5 := Lib.hid hb
 clear hb hg HX HZ HEA HLD hdl hdr hsp HDL
 generalize w7 = wd at *
 have HCL := Lib.hid (zda HLL.out)
 obtain ⟨ca, hca⟩ : ∃ k, k = clampB dl := ⟨_, rfl⟩
 have HCC := Lib.hid (fun w => cclamped_any dl w HLL.out)
 rw [← hca] at HCC HCL HA1
 clear hca
 have hat1 := run_arr_at (P := Tryz.prog) Tryz.underlying23 (some ⟨pd, 0, none⟩) 32 64 (Nat.le_refl _)
 have hat2 := run_arr_at (P := Tryz.prog) Tryz.underlying23 (some ⟨pd, 32, none⟩) 32 32 (Nat.le_refl _)
 have B0 := zaa HV5.out (Ext.drew wd)
 refine wp_region_held_drew (S := fun w' => Blk w' pd (dl.map bval ++ dr.map bval) 25) (by kernel_rfl) B0 (fun hHeld => ?_)
 refine tke 0 (.slice (some ⟨pd, 0, none⟩) 32 64) rfl (zbw _ (by rfl) (fun w _ => by go_simp)) hHeld ?_
 simp only [Act.put, nrm]
 refine tke 1 (.pointer (some ⟨pd, 0, none⟩)) rfl (zbw _ (by rfl) (fun w _ => by go_simp)) hHeld ?_
 simp only [Act.put, nrm]
 refine tke 2 (.agg (dl.map bval).toArray) rfl (yieldsIf_load_mid (by rfl) _ _ rfl pd 0 rfl _ _ (fun w h => rng_lo h.range) Tryz.underlying23 rfl (zae HLL.out)) hHeld ?_
 simp only [Act.put, nrm]
 refine tke 4 (.slice (some ⟨pd, 32, none⟩) 32 32) rfl (zbw _ (by rfl) (fun w _ => by go_simp)) hHeld ?_
 simp only [Act.put, nrm]
 refine tke 5 (.pointer (some ⟨pd, 32, none⟩)) rfl (zbw _ (by rfl) (fun w _ => by go_simp)) hHeld ?_
 simp only [Act.put, nrm]
 refine tke 6 (.agg (dr.map bval).toArray) rfl (yieldsIf_load_mid (by rfl) _ _ rfl pd 32 rfl _ _ (fun w h => rng_hi (m := 32) h.range (by rw [List.length_map]; exact HLL.out) rfl) Tryz.underlying23 rfl (zae HLR.out)) hHeld ?_
 simp only [Act.put, nrm]
 refine rdy 3 rfl fun K hK => ?_
 go_simp
 refine (HCC.out _).mono ?_
 rintro e m1 ⟨rfl, b1⟩
 have c1 := (Ext.drew wd).trans b1
 refine hK.out _ _ (zaa B0 b1) (fun hHeld => ?_)
 clear hK K
 try simp only [Act.put, nrm]
 refine rdy 7 rfl fun K hK => ?_
 refine zao (by rfl) ?_
 refine zal _ _ _ rfl (A + 1) (ca.map bval) rfl rfl _ _ (zaa H2.out c1) (by rw [List.length_map, HCL.out]; rfl) (zae HCL.out) (zaj _) ?_
 intro m2 hb2 hg2
 refine hK.out _ _ ((zaa B0 b1).grown hg2 (by have := HLT.out; simp; omega)) (fun hHeld => ?_)
 clear hK K
 try simp only [Act.put, nrm]
 refine rdy 8 rfl fun K hK => ?_
 refine zao (by rfl) ?_
 refine zal _ _ _ rfl (A + 1 + 1) (dr.map bval) rfl rfl _ _ ((zaa H3.out c1).grown hg2 (by simp)) (by rw [List.length_map, HLR.out]; rfl) (zae HLR.out) (zaj _) ?_
 intro m3 hb3 hg3
 refine hK.out _ _ (((zaa B0 b1).grown hg2 (by have := HLT.out; simp; omega)).grown hg3 (by have := HLT.out; simp; omega)) (fun hHeld => ?_)
 clear hK K
 try simp only [Act.put, nrm]
 refine dne ?_
 have r2 := hb2.grown hg3 (by simp)
 have HE3 := zad (zad (HE.out.trans c1) hg2 (by have := HAW.out; omega)) hg3 (by have := HAW.out; omega)
 go_wp2_with fail
 refine bodyPost_ret (result_two rfl _ (A + 1) (A + 1 + 1) _ _ _ _ _ rfl rfl r2 hb3 Tryz.underlying23 rfl (zae HCL.out) (zae HLR.out)) rfl ?_
 exact ⟨by rw [HA1.out, HA2.out], HE3⟩
theorem secA_length (s : List UInt8) : (secA s).length = 32 := zda (by rw [List.length_take, zbx]; rfl)
theorem secH_length (s : List UInt8) : (secH s).length = 32 := by unfold secH; rw [List.length_drop, zbx]
theorem clampB_lt {l : List UInt8} (h : l.length = 32) : leN (clampB l) < 2 ^ 255 := by
 refine leN_top (zda h) ?_
 unfold clampB
 rw [getD_set_self _ 31 _ (by simp [h])]
 have hh : ∀ m : Fin 256, ((UInt8.ofNat m.val &&& 127) ||| 64).toNat < 128 := by decide +kernel
 generalize (l.set 0 (l.getD 0 0 &&& 248)).getD 31 0 = b
 have := hh ⟨b.toNat, b.toNat_lt⟩
 simpa using this
theorem secA_lt (s : List UInt8) : leN (secA s) < 2 ^ 255 := clampB_lt (by rw [List.length_take, zbx]; rfl)
theorem wideB_lt (m : List UInt8) : leN (wideB m) < 2 ^ 255 := by
 unfold wideB
 rw [leN_nq]
 exact Nat.lt_trans (Nat.mod_lt _ (by decide +kernel)) (by decide +kernel)
theorem enc_times {a : List UInt8} (h : leN a < 2 ^ 255) : encS (crun bP.es (leN a) 255) = encB (pmul (leN a) bP) := encS_is (crun_full bP.es_is h)
set_option maxRecDepth 100000 in
set_option maxHeartbeats 8000000 in
theorem CPub_num (sd : List UInt8) (w : World) (hs : sd.length = 32) (hR : GlobRQ w) (hG : GlobC w) : Calls Tryz.prog 12 #[.agg (sd.map bval).toArray] w fun e w' => e = .returned (.agg ((edPub sd).map bval).toArray) ∧ Below w.heap.size w w' := by
 have HSL := Lib.hid hs
 have HGR := Lib.hid hR
 clear hs hR
 have HGC := Lib.hid hG
 clear hG
 have HB := Lib.hid (boxes2 w (sd.map bval) (ints .u8 (List.replicate 32 0)) 23 23)
 go_enter Tryz.func12, Tryz.ntmps12
 go_upto_region 1 with (fail)
 obtain ⟨H1, H2, HE⟩ := HB.out
 change Code.wp _ _ _ _ (World.alloc (World.alloc w (.cells (sd.map bval).toArray 23)) (.cells (ints .u8 (List.replicate 32 0)).toArray 23))
 generalize (World.alloc (World.alloc w (.cells (sd.map bval).toArray 23)) (.cells (ints .u8 (List.replicate 32 0)).toArray 23)) = wa at *
 obtain ⟨A, hA⟩ : ∃ A, A = w.heap.size := ⟨_, rfl⟩
 have HAW : Hid (w.heap.size ≤ A) := Lib.hid (by omega)
 rw [← hA] at H1 H2 ⊢
 have H1 := Lib.hid H1
 have H2 := Lib.hid H2
 have HE : Hid (Ext w wa) := Lib.hid HE
 clear hA HB
 go_wp2_with (first | (refine wpList_load_mid rfl _ _ rfl A 0 rfl _ _ (H1.out.range) Tryz.underlying23 rfl (zae HSL.out) ?_))
 refine (csecrets_f sd _ HSL.out (HGR.out.ext HE.out)).mono ?_
 rintro e w5 ⟨rfl, hb⟩
 have H1 := Lib.hid (zaa H1.out hb)
 have H2 := Lib.hid (zaa H2.out hb)
 have HE := Lib.hid (HE.out.trans hb)
 clear hb
 have HAL := Lib.hid (secA_length sd)
 have HHL := Lib.hid (secH_length sd)
 have HLA := Lib.hid (secA_lt sd)
 obtain ⟨av, hav⟩ : ∃ k, k = secA sd := ⟨_, rfl⟩
 obtain ⟨hv, hhv⟩ : ∃ k, k = secH sd := ⟨_, rfl⟩
 rw [← hav] at HAL HLA
 rw [← hhv] at HHL
 rw [← hav, ← hhv]
 have HAV := Lib.hid hav
 have HHV := Lib.hid hhv
 clear hav hhv
 have HB2 := Lib.hid (boxes2 w5 (ints .u8 (List.replicate 32 0)) (ints .u8 (List.replicate 32 0)) 23 23)
 have HL1 : Hid ((av.map bval).length = (ints .u8 (List.replicate 32 0)).length) := Lib.hid (by rw [List.length_map, HAL.out]; rfl)
 have HL2 : Hid ((hv.map bval).length = (ints .u8 (List.replicate 32 0)).length) := Lib.hid (by rw [List.length_map, HHL.out]; rfl)
 have HLT := Lib.hid (H2.out.lt)
 go_upto_region 2 with (first | (refine zac rfl _ _ _ rfl w5.heap.size (av.map bval) rfl rfl _ _ HB2.out.1 HL1.out (zae HAL.out) (zaj _) ?_; intro w6 hs1 hg1) | (refine zac rfl _ _ _ rfl (w5.heap.size + 1) (hv.map bval) rfl rfl _ _ (HB2.out.2.1.grown hg1 (by simp)) HL2.out (zae HHL.out) (zaj _) ?_; intro w7 hs2 hg2))
 have HX := Lib.hid (zad (zad HB2.out.2.2 hg1 (Nat.le_refl _)) hg2 (Nat.le_succ _))
 have HSA := Lib.hid (hs1.grown hg2 (by simp))
 have HSH := Lib.hid hs2
 obtain ⟨pa, hT⟩ : ∃ T, T = w5.heap.size := ⟨_, rfl⟩
 rw [← hT] at HSA HSH HLT ⊢
 clear hT
 have H1 := Lib.hid (zaa H1.out HX.out)
 have H2 := Lib.hid (zaa H2.out HX.out)
 have HE := Lib.hid (HE.out.trans HX.out)
 clear hs1 hs2 hg1 hg2 HX HB2 HL1 HL2
 generalize w7 = wd at *
 go_wp2_with fail
 refine zak 4 1 4 rfl (by kernel_rfl) (by kernel_rfl) (fun d v c a w h => by cases d <;> exact h) (by kernel_rfl) ?_
 refine zai _ _ pa 0 (av.map bval) _ (by rfl) rfl rfl (fun w hw => (zaa HSA.out hw).range) Tryz.underlying23 rfl (zae HAL.out) ?_
 simp only [Act.put, nrm]
 refine zah _ _ _ [] (.agg (ptF bP.es).toArray) (by rfl) rfl Tryz.call19 rfl (fun w hw => cbase_f w (HGC.out.ext (HE.out.trans hw))) ?_
 simp only [Act.put, nrm]
 refine zah _ _ _ [.agg (av.map bval).toArray, .agg (ptF bP.es).toArray] (.agg (ptF (crun bP.es (leN av) 255)).toArray) (by rfl) rfl Tryz.call32 rfl (fun w hw => ctimes_f w av bP.es HAL.out (HGC.out.ext (HE.out.trans hw))) ?_
 simp only [Act.put, nrm]
 refine zah _ _ _ [.agg (ptF (crun bP.es (leN av) 255)).toArray] (.agg ((encB (pmul (leN av) bP)).map bval).toArray) (by rfl) rfl Tryz.call17 rfl (fun w hw => (by have h := cencoded_f w (crun bP.es (leN av) 255); rwa [enc_times HLA.out] at h)) ?_
 simp only [Act.put, nrm]
 refine zaw (zdv (k := 4) _ _ _ _ (A + 1) ((encB (pmul (leN av) bP)).map bval) (ints .u8 (List.replicate 32 0)) rfl (by kernel_rfl) (by kernel_rfl) (by kernel_rfl) rfl rfl rfl rfl H2.out (by rw [List.length_map, (zbt _)]; rfl) (zae (zbt _)) (zaj _) (fun w8 hb8 hg8 => ?_))
 simp only [Act.put]
 go_wp2_with fail
 exact bodyPost_ret (zax (by rfl) _ (A + 1) _ _ _ (by rfl) hb8 Tryz.underlying23 rfl (zae (zbt _))) rfl ⟨by rw [HAV.out]; rfl, zad HE.out hg8 (by have := HAW.out; omega)⟩
set_option maxRecDepth 100000 in
set_option maxHeartbeats 4000000 in
theorem scl_Mul_num (l m : List UInt8) (w : World) (hl : l.length = 32) (hm : m.length = 32) (hG : GlobT w) :
  Calls Tryz.prog 34 #[.agg (l.map bval).toArray, .agg (m.map bval).toArray] w fun e w' => e = .returned (.agg ((nq ((leN l : Nat) * (leN m : Nat))).map bval).toArray) ∧ Below w.heap.size w w' := by
 have HSM := Lib.hid (leN_prod l m hl hm)
 have HXT := Lib.hid ((limF_can l (by omega)).ten (leN_ten l hl) (by omega))
 have HYT := Lib.hid ((limF_can m (by omega)).ten (leN_ten m hm) (by omega))
 have HL := Lib.hid hl
 have HM := Lib.hid hm
 have HG := Lib.hid hG
 have HIl : Hid ((Tryz.prog.info? 23).map (·.size) = some (l.map bval).length) := Lib.hid (zae hl)
 have HIm : Hid ((Tryz.prog.info? 23).map (·.size) = some (m.map bval).length) := Lib.hid (zae hm)
 have HCX := Lib.hid (limF_can l (by omega))
 have HCY := Lib.hid (limF_can m (by omega))
 have HB := Lib.hid (boxes3 w (l.map bval) (m.map bval) (ints .u8 (List.replicate 32 0)) 23 23 23)
 clear hl hm hG
 go_enter Tryz.func34, Tryz.ntmps34
 go_wp2_with fail
 change Code.wp _ _ _ _ (((w.alloc (.cells (l.map bval).toArray 23)).alloc (.cells (m.map bval).toArray 23)).alloc (.cells (ints .u8 (List.replicate 32 0)).toArray 23))
 generalize ((w.alloc (.cells (l.map bval).toArray 23)).alloc (.cells (m.map bval).toArray 23)).alloc (.cells (ints .u8 (List.replicate 32 0)).toArray 23) = w0 at *
 obtain ⟨h1, h2, h3, hE⟩ := HB.out
 obtain ⟨A, hA⟩ : ∃ A, A = w.heap.size := ⟨_, rfl⟩
 rw [← hA] at h1 h2 h3 ⊢
 have hA2 : w.heap.size ≤ A := by omega
 have hA3 : A + 1 + 1 < w0.heap.size := h3.lt
 have H1 := Lib.hid h1
 have H2 := Lib.hid h2
 have H3 := Lib.hid h3
 have HE : Hid (Ext w w0) := Lib.hid hE
 clear h1 h2 h3 hE HB hA
 refine zak 4 4 6 rfl (by kernel_rfl) (by kernel_rfl) (fun d v c a w h => by cases d <;> exact h) (by kernel_rfl) ?_
 refine zbd (.slice (some ⟨A, 0, none⟩) 32 32) (by rfl) (fun w hw => by go_simp) ?_
 simp only [Act.put, nrm]
 refine zah _ _ _ [.slice (some ⟨A, 0, none⟩) 32 32] (.agg (ints .i64 (limF l)).toArray) (by rfl) rfl Tryz.call66 rfl (fun w hw => lim_blk l (zaa H1.out hw) HL.out) ?_
 simp only [Act.put, nrm]
 refine zbd (.slice (some ⟨(A + 1), 0, none⟩) 32 32) (by rfl) (fun w hw => by go_simp) ?_
 simp only [Act.put, nrm]
 refine zah _ _ _ [.slice (some ⟨(A + 1), 0, none⟩) 32 32] (.agg (ints .i64 (limF m)).toArray) (by rfl) rfl Tryz.call66 rfl (fun w hw => lim_blk m (zaa H2.out hw) HM.out) ?_
 simp only [Act.put, nrm]
 refine zaw (end_var2 (k := 4) 86 5 6 (.tmp 11) (.tmp 13) (ints .i64 (List.replicate 19 0)) (ints .i64 (limF l)) (ints .i64 (limF m)) rfl rfl rfl rfl (by kernel_rfl) (by kernel_rfl) (by kernel_rfl) (by kernel_rfl) (by kernel_rfl) (by kernel_rfl) (by kernel_rfl) (by kernel_rfl) (by kernel_rfl) (by kernel_rfl) rfl rfl rfl rfl rfl rfl rfl rfl (by decide) (fun w => by rw [Tryz.zeroValue86]; rfl) rfl rfl rfl rfl (by simp) (by simp) (fun p q => rfl) (fun p q => rfl) (by rw [zab, zab, zdt]; rfl) (by rw [zab, zab, zdt]; rfl) (by rw [zab, zdt]; exact Tryz.arr86) (by rw [zab, zdt]; exact Tryz.arr86) (zan _ _) (zan _ _) ?_)
 intro p q w1 hpq hp hq hb1 hb2 he1
 have HPQ := Lib.hid hpq
 have H3 := Lib.hid (zaa H3.out he1)
 have HE := Lib.hid (HE.out.trans he1)
 have HX := Lib.hid hb1
 have HY := Lib.hid hb2
 have hpA : A + 1 + 1 < p := by omega
 have hqA : A + 1 + 1 < q := by omega
 have hpw : p < w1.heap.size := hb1.lt
 have hqw : q < w1.heap.size := hb2.lt
 clear hpq hb1 hb2 he1 H1 H2
 clear hp hq
 go_wp2_with fail
 change Code.wp _ _ _ _ (w1.alloc (.cells (ints .i64 (List.replicate 19 0)).toArray 86))
 have HZ := Lib.hid (Blk.made w1 (ints .i64 (List.replicate 19 0)) 86)
 have H3 := Lib.hid (H3.out.alloc (.cells (ints .i64 (List.replicate 19 0)).toArray 86))
 have HX := Lib.hid (HX.out.alloc (.cells (ints .i64 (List.replicate 19 0)).toArray 86))
 have HY := Lib.hid (HY.out.alloc (.cells (ints .i64 (List.replicate 19 0)).toArray 86))
 have HE := Lib.hid (HE.out.trans (Ext.alloc w1 (.cells (ints .i64 (List.replicate 19 0)).toArray 86)))
 generalize w1.alloc (.cells (ints .i64 (List.replicate 19 0)).toArray 86) = w2 at *
 generalize w1.heap.size = D at *
 have HXL := Lib.hid HCX.out.len
 have HYL := Lib.hid HCY.out.len
 have HXR : Hid (∀ j, 0 ≤ (limF l).getD j 0 ∧ (limF l).getD j 0 ≤ 268435456) := Lib.hid (fun j => by have := HCX.out.range j; omega)
 have HYR : Hid (∀ j, 0 ≤ (limF m).getD j 0 ∧ (limF m).getD j 0 ≤ 268435456) := Lib.hid (fun j => by have := HCY.out.range j; omega)
 clear HCX HCY
 generalize limF l = x at *
 generalize limF m = y at *
 go_loopw [14] (fun i wr => ∃ (k : Nat), k ≤ 10 ∧ i = .int .i64 (k : Int) ∧ Blk wr D (ints .i64 (mAll x y k)) 86 ∧ Blk wr p (ints .i64 x) 86 ∧ Blk wr q (ints .i64 y) 86 ∧ Blk wr (A + 1 + 1) (ints .u8 (List.replicate 32 0)) 23 ∧ Ext w wr) (fun i _ => 10 - (intOf i).toNat)
 case atStart => exact ⟨0, by omega, rfl, HZ.out, HX.out, HY.out, H3.out, HE.out⟩
 case round =>
  clear HX HY HZ H3 HE
  obtain ⟨i, hi, rfl, hbz, hb1, hb2, hb3, hbel⟩ := hrel
  have i0' : (0 : Int) ≤ (i : Int) := Int.natCast_nonneg _
  by_cases hlt : i < 10
  ·have i1 : (i : Int) < 10 := by omega
   have HZ := Lib.hid hbz
   have HX := Lib.hid hb1
   have HY := Lib.hid hb2
   have H3 := Lib.hid hb3
   have HE := Lib.hid hbel
   clear hbz hb1 hb2 hb3 hbel
   have HPR := Lib.hid (mAll_range HXR.out HYR.out i (by omega))
   have HPL := Lib.hid (mAll_length x y i)
   have HNX : Hid (mAll x y (i + 1) = mRow (mAll x y i) x y i 10) := Lib.hid rfl
   generalize mAll x y i = z at *
   go_wp2_with fail
   obtain ⟨wo, rfl⟩ : ∃ wo : World, wo = wr := ⟨_, rfl⟩
   go_loopw [17] (fun j wr => ∃ (k : Nat), k ≤ 10 ∧ j = .int .i64 (k : Int) ∧ Blk wr D (ints .i64 (mRow z x y i k)) 86 ∧ Blk wr p (ints .i64 x) 86 ∧ Blk wr q (ints .i64 y) 86 ∧ Blk wr (A + 1 + 1) (ints .u8 (List.replicate 32 0)) 23 ∧ Ext w wr) (fun j _ => 10 - (intOf j).toNat)
   case atStart => exact ⟨0, by omega, rfl, HZ.out, HX.out, HY.out, H3.out, HE.out⟩
   case round =>
    clear HX HY HZ H3 HE
    obtain ⟨j, hj, rfl, hbz, hb1, hb2, hb3, hbel⟩ := hrel
    have j0' : (0 : Int) ≤ (j : Int) := Int.natCast_nonneg _
    by_cases hlj : j < 10
    ·have j1 : (j : Int) < 10 := by omega
     have hxl := HXL.out
     have hyl := HYL.out
     have hzl := zdj z x y i j
     rw [HPL.out] at hzl
     have e1 := hb1.cell i
     rw [zau (by omega)] at e1
     have e2 := hb2.cell j
     rw [zau (by omega)] at e2
     have e3 := hbz.cell (i + j)
     rw [zau (by omega)] at e3
     have f3 := hbz.free (i + j)
     have q1 := HXR.out i
     have q2 := HYR.out j
     have q3 := mRow_range hlt HPL.out HPR.out (HXR.out i) HYR.out j (by omega) (i + j)
     have hst : mRow z x y i (j + 1) = (mRow z x y i j).set (i + j) ((mRow z x y i j).getD (i + j) 0 + x.getD i 0 * y.getD j 0) := rfl
     have HST := Lib.hid hst
     have q4 := mul_range q1.1 q1.2 q2.1 q2.2
     generalize (mRow z x y i j).getD (i + j) 0 = a at *
     generalize x.getD i 0 = u at *
     generalize y.getD j 0 = t at *
     obtain ⟨ij, hij⟩ : ∃ ij : Nat, ij = i + j := ⟨_, rfl⟩
     rw [← hij] at e3 f3
     have hij2 : (i : Int) + (j : Int) = (ij : Int) := by omega
     have ij1 : (ij : Int) < 19 := by omega
     have HIJ := Lib.hid hij
     have HZ := Lib.hid hbz
     have HX := Lib.hid hb1
     have HY := Lib.hid hb2
     have H3 := Lib.hid hb3
     have HE := Lib.hid hbel
     clear hst hbz hb1 hb2 hb3 hbel hxl hyl hzl hij
     go_wp2_with fail
     go_region
     go_wp2_with fail
     go_roundw
     case rel =>
      refine ⟨j + 1, by omega, by go_num, ?_, (HX.out.far (by simp; omega) _).drewN 1, (HY.out.far (by simp; omega) _).drewN 1, (H3.out.far (by simp; omega) _).drewN 1, (Below.setCell HE.out (by simp; omega) _).drew⟩
      rw [HST.out, ← zbq, ← HIJ.out]
      exact (HZ.out.set ij _).drewN 1
     case measure => simp [intOf]; omega
    ·have hj' : j = 10 := by omega
     subst hj'
     rw [← HNX.out] at hbz
     have HZ := Lib.hid hbz
     have HX := Lib.hid hb1
     have HY := Lib.hid hb2
     have H3 := Lib.hid hb3
     have HE := Lib.hid hbel
     clear hbz hb1 hb2 hb3 hbel
     go_wp2_with fail
     go_roundw
     case rel => exact ⟨i + 1, by omega, by go_num, HZ.out, HX.out, HY.out, H3.out, HE.out⟩
     case measure => simp [intOf]; omega
  ·have hi' : i = 10 := by omega
   subst hi'
   have hzl := mAll_length x y 10
   have hval := mAll_val x y HXL.out HYL.out 10 (by omega)
   rw [HXT.out, HYT.out] at hval
   have HNM := Lib.hid (fun w hw => scl_numOf_any (mAll x y 10) ((leN l : Nat) * (leN m : Nat)) 720575940379279360 w hw hzl (by omega) (by omega) (fun j hj => by
    have := mAll_range HXR.out HYR.out 10 (by omega) j
    omega) hval (Int.mul_nonneg (by omega) (by omega)) HSM.out)
   have hi1 : Hid ((Tryz.prog.info? 86).map (·.size) = some (ints .i64 (mAll x y 10)).length) := Lib.hid (by rw [zab, hzl]; exact Tryz.arr86)
   have HZ := Lib.hid hbz
   have H3 := Lib.hid hb3
   have HE := Lib.hid hbel
   clear hbz hb1 hb2 hb3 hbel hzl hval
   go_wp2_with (refine zag rfl _ _ rfl D rfl _ _ _ _ HZ.out Tryz.underlying86 hi1.out ?_)
   refine (HNM.out _ (HG.out.ext HE.out)).mono ?_
   rintro e w5 ⟨rfl, hb5⟩
   have H3 := Lib.hid (zaa H3.out hb5)
   have HE := Lib.hid (HE.out.trans hb5)
   have hi2 : Hid ((Tryz.prog.info? 23).map (·.size) = some ((nq ((leN l : Nat) * (leN m : Nat))).map bval).length) := Lib.hid (zae (zbu _))
   have hl2 : Hid (((nq ((leN l : Nat) * (leN m : Nat))).map bval).length = (ints .u8 (List.replicate 32 0)).length) := Lib.hid (by rw [List.length_map, zbu]; rfl)
   clear hb5 HNM
   go_wp2_with (refine zac rfl _ _ _ rfl (A + 1 + 1) _ rfl rfl _ _ H3.out hl2.out hi2.out (zaj _) ?_; intro w7 hb7 hg7)
   exact bodyPost_ret (v := .agg ((nq ((leN l : Nat) * (leN m : Nat))).map bval).toArray) (zax (by rfl) _ (A + 1 + 1) _ _ _ (by rfl) hb7 Tryz.underlying23 rfl hi2.out) rfl ⟨rfl, zad HE.out hg7 (by omega)⟩
theorem grown_own (w : World) (base n cap : Nat) (e : TypeId) (cur : Array Value) (hb : base ≤ w.heap.size) (hc : cap ≤ maxLen) (hs : cur.size = cap) : (w.alloc (.cells cur e)).ownsRow base e 1 (.slice (some ⟨w.heap.size, 0, none⟩) 0 cap) 0 [] :=
 ⟨rfl, Or.inr ⟨w.heap.size, cap, cur, rfl, hb, heap_alloc_new w _, Nat.zero_le _, hc, by omega, rfl⟩⟩
set_option maxRecDepth 100000 in
set_option maxHeartbeats 4000000 in
theorem stdGrow_nil (n : Nat) (w : World) (hn : n ≤ 1099511627776) :
  Calls Tryz.prog 68 #[.slice none 0 0, .int .i64 (n : Int)] w fun e w' => ∃ x, e = .returned x ∧ w'.ownsRow w.heap.size 5 1 x 0 [] ∧ Below w.heap.size w w' := by
 obtain ⟨i0, hi, hz0, hz1, hz2⟩ := info_parts Tryz.info5
 have h0 : (0 : Int) ≤ (n : Int) := Int.natCast_nonneg _
 have HNB := Lib.hid hn
 go_enter Tryz.func68, Tryz.ntmps68
 rcases Nat.eq_zero_or_pos n with rfl | hp
 ·clear hi hz0 hz1 hz2
  go_wp2_with fail
  go_ret
  exact ⟨_, rfl, World.ownsRow_nil _ _ _ _, Below.refl _ _⟩
 ·have hp' : (0 : Int) < (n : Int) := by omega
  have HR := Lib.hid (Lib.run_append_nil_zeros (P := Tryz.prog) w 26 3 0 5 i0 (.int .u8 0) .i64 .i64 Tryz.underlying26 rfl hi hz0 n hp (by rw [hz1]; decide) (by omega) (by rw [hz2]; omega))
  have HG : Hid (grownCap w n 0 5 ≤ maxLen) := Lib.hid (grownCap_le_maxLen w n 0 _ (by unfold maxLen; omega))
  have HG2 : Hid (n ≤ grownCap w n 0 5) := Lib.hid (grownCap_ge w n 0 _)
  have HSZ : Hid ((Builtin.zeroCells (Value.cells (.int .u8 0)) n ++ Builtin.zeroCells (Value.cells (.int .u8 0)) (grownCap w n 0 5 - n)).size = grownCap w n 0 5) := Lib.hid (by
   rw [Array.size_append, size_zeroCells, size_zeroCells]
   have := HG2.out
   simp [Value.cells]
   omega)
  clear hi hz0 hz1 hz2
  generalize Builtin.zeroCells (Value.cells (.int .u8 0)) n ++ Builtin.zeroCells (Value.cells (.int .u8 0)) (grownCap w n 0 5 - n) = cur at *
  generalize grownCap w n 0 5 = cap at *
  have hc0 : (0 : Int) ≤ (cap : Int) := Int.natCast_nonneg _
  go_wp2_with (at_builtin; refine Lib.wpList_append_run _ rfl _ _ _ _ rfl _ _ rfl rfl _ _ HR.out ?_)
  go_ret
  exact ⟨_, rfl, grown_own w.drew _ n cap _ cur (Nat.le_refl _) HG.out HSZ.out, below_drewN (Ext.alloc w _) 1⟩
theorem cat_succ (ls : List (List UInt8)) (k : Nat) (l : List UInt8) (h : ls[k]? = some l) : (ls.take (k + 1)).flatten = (ls.take k).flatten ++ l := by
 have hk : k < ls.length := by
  rcases Nat.lt_or_ge k ls.length with h' | h'
  ·exact h'
  ·rw [List.getElem?_eq_none h'] at h; cases h
 rw [List.take_succ_eq_append_getElem hk, List.flatten_append]
 rw [List.getElem?_eq_getElem hk] at h
 cases h
 simp
theorem cat_part (ls : List (List UInt8)) (k : Nat) : (ls.take k).flatten.length ≤ ls.flatten.length := by
 have h : ls.flatten = (ls.take k).flatten ++ (ls.drop k).flatten := by rw [← List.flatten_append, List.take_append_drop]
 rw [h, List.length_append]
 omega
theorem cat_all (ls : List (List UInt8)) : (ls.take ls.length).flatten = ls.flatten := by rw [List.take_length]
set_option maxRecDepth 100000 in
set_option maxHeartbeats 4000000 in
theorem stdConcat_any (v : Value) (ls : List (List UInt8)) (w : World) (hv : RowB w v ls) (hb : ls.flatten.length ≤ 1099511627776) :
  Calls Tryz.prog 35 #[v] w fun e w' => ∃ x, e = .returned x ∧ w'.ownsRow w.heap.size 5 1 x ls.flatten.length (ls.flatten.map bval) ∧ Below w.heap.size w w' := by
 obtain ⟨i0, hi, hz0, hz1, hz2⟩ := info_parts Tryz.info5
 obtain ⟨vals, hr, hlen, hx⟩ := hv
 obtain ⟨a, cap, rfl, r1, r2, r3, r4⟩ := id hr
 unfold maxLen at r2
 rw [hlen] at r1 ⊢
 have HI0 := Lib.hid hi
 have HZ0 := Lib.hid hz0
 have HZ1 := Lib.hid hz1
 have HZ2 := Lib.hid hz2
 have HX := Lib.hid hx
 have HC := Lib.hid r4
 have HLN := Lib.hid hlen
 have HB := Lib.hid hb
 clear hr hx r3 r4 hb hlen hi hz0 hz1 hz2
 go_enter Tryz.func35, Tryz.ntmps35
 go_wp2_with fail
 go_loop [3, 11] (fun sv iv => ∃ (k : Nat), k ≤ ls.length ∧ iv = .int .i64 (k : Int) ∧ sv = .int .i64 ((ls.take k).flatten.length : Int)) (fun _ iv => ls.length - (intOf iv).toNat)
 case atStart => exact ⟨0, by omega, rfl, rfl⟩
 case round =>
  obtain ⟨k, hk, rfl, rfl⟩ := hrel
  have k0 : (0 : Int) ≤ (k : Int) := Int.natCast_nonneg _
  by_cases hlk : k < ls.length
  ·have k1 : (k : Int) < (ls.length : Int) := by omega
   obtain ⟨b', off, rfl, hbs, hcell⟩ := HC.out (by intro e; have h := congrArg List.length e; rw [HLN.out] at h; simp only [List.length_nil] at h; omega)
   obtain ⟨xv, hxv⟩ : ∃ x, vals[k]? = some x := ⟨_, List.getElem?_eq_getElem (by rw [HLN.out]; exact hlk)⟩
   obtain ⟨lk, hlk2⟩ : ∃ x, ls[k]? = some x := ⟨_, List.getElem?_eq_getElem hlk⟩
   obtain ⟨ax, cx, hxx, _⟩ := HX.out k xv lk hxv hlk2
   rw [List.length_map] at hxx
   have hft := cat_succ ls k lk hlk2
   have hfl := cat_part ls (k + 1)
   rw [hft, List.length_append] at hfl
   have HFT : Hid ((ls.take (k + 1)).flatten.length = (ls.take k).flatten.length + lk.length) := Lib.hid (by rw [hft, List.length_append])
   have c0 : w.cell? ⟨b', off + k, none⟩ = some xv := by
    have h := hcell k (by rw [HLN.out]; exact hlk)
    rw [hxv] at h
    exact h
   subst hxx
   have hB := HB.out
   generalize (ls.take k).flatten.length = p at *
   have hpl : (p : Int) + (lk.length : Int) ≤ 1099511627776 := by omega
   have hp0 : (0 : Int) ≤ (p : Int) := Int.natCast_nonneg _
   have hl0 : (0 : Int) ≤ (lk.length : Int) := Int.natCast_nonneg _
   have hlk0 : (0 : Int) ≤ (p : Int) + (lk.length : Int) := by omega
   clear hcell hxv hlk2 hft hfl
   go_wp2_with fail
   go_round
   case rel =>
    refine ⟨k + 1, by omega, by go_num, ?_⟩
    rw [HFT.out]
    rfl
   case measure => simp [intOf]; omega
  ·have hk2 : (ls.length : Int) ≤ (k : Int) := by omega
   obtain rfl : k = ls.length := by omega
   rw [cat_all]
   obtain ⟨N, hN⟩ : ∃ N, N = ls.flatten.length := ⟨_, rfl⟩
   have HNB : Hid (N ≤ 1099511627776) := Lib.hid (by rw [hN]; exact HB.out)
   rw [← hN]
   have n0 : (0 : Int) ≤ (N : Int) := Int.natCast_nonneg _
   clear hN
   go_wp2_with fail
   refine (stdGrow_nil N w HNB.out).mono ?_
   rintro e w1 ⟨x1, rfl, ho1, hb1⟩
   have HNIL := Lib.hid ho1
   have HE1 : Hid (Ext w w1) := Lib.hid hb1
   clear ho1 hb1
   go_wp2_with fail
   go_loopw [6, 27] (fun x iv wr => ∃ (k : Nat), k ≤ ls.length ∧ iv = .int .i64 (k : Int) ∧ wr.ownsRow w.heap.size 5 1 x (ls.take k).flatten.length ((ls.take k).flatten.map bval) ∧ Ext w wr) (fun _ iv _ => ls.length - (intOf iv).toNat)
   case atStart => exact ⟨0, by omega, rfl, HNIL.out, HE1.out⟩
   case round =>
    clear HNIL HE1
    obtain ⟨k, hk, rfl, ho, hE⟩ := hrel
    have k0 : (0 : Int) ≤ (k : Int) := Int.natCast_nonneg _
    have HO := Lib.hid ho
    have HE := Lib.hid hE
    have HS := Lib.hid hE.size
    clear ho hE
    by_cases hlk : k < ls.length
    ·have k1 : (k : Int) < (ls.length : Int) := by omega
     obtain ⟨b', off, rfl, hbs, hcell⟩ := HC.out (by intro e; have h := congrArg List.length e; rw [HLN.out] at h; simp only [List.length_nil] at h; omega)
     obtain ⟨xv, hxv⟩ : ∃ x, vals[k]? = some x := ⟨_, List.getElem?_eq_getElem (by rw [HLN.out]; exact hlk)⟩
     obtain ⟨lk, hlk2⟩ : ∃ x, ls[k]? = some x := ⟨_, List.getElem?_eq_getElem hlk⟩
     have HXR := Lib.hid ((HX.out k xv lk hxv hlk2).below HE.out)
     have hft := cat_succ ls k lk hlk2
     have hfl := cat_part ls (k + 1)
     rw [hft, List.length_append] at hfl
     have HFT := Lib.hid hft
     have c0 : wr.cell? ⟨b', off + k, none⟩ = some xv := by
      have h := hcell k (by rw [HLN.out]; exact hlk)
      rw [hxv] at h
      rw [← h]
      exact HE.out.cell (p := ⟨b', off + k, none⟩) hbs
     have HFL : Hid ((ls.take k).flatten.length + (lk.map bval).length ≤ 1099511627776) := Lib.hid (by rw [List.length_map]; have := HB.out; omega)
     clear hcell hxv hlk2 hft hfl
     go_wp2_with (at_builtin; refine zbv rfl _ _ 26 rfl w.heap.size 5 i0 (.int .u8 0) 1 Tryz.underlying26 HI0.out HZ0.out HZ1.out HZ2.out rfl _ _ _ rfl HO.out rfl HXR.out (zaj _) (by have := HFL.out; unfold maxLen; omega) (by have := HFL.out; omega) HS.out ?_; intro v3 w3 hown3 hgrow3)
     go_roundw
     case rel =>
      refine ⟨k + 1, by omega, by go_num, ?_, ext_own HE.out HO.out (Nat.le_refl _) hgrow3⟩
      rw [HFT.out, List.map_append, List.length_append]
      rw [List.length_map] at hown3
      exact hown3
     case measure => simp [intOf]; omega
    ·have hk2 : (ls.length : Int) ≤ (k : Int) := by omega
     obtain rfl : k = ls.length := by omega
     rw [cat_all] at HO
     go_wp2_with fail
     go_ret
     exact ⟨_, rfl, HO.out, HE.out⟩
theorem dig_one (v : Value) (ls : List (List UInt8)) (l : List UInt8) (x : Value) (m : List UInt8) (w : World) (hv : RowB w v ls) (hx : Row1 w x (l.map bval)) (hm : l ++ ls.flatten = m) (hl : m.length ≤ 1099511627776) (hc : ls.length ≤ 1000000) (hR : GlobRQ w) (hT : GlobT w) :
  Calls Tryz.prog 16 #[v, .slice (some ⟨w.heap.size, 0, none⟩) 1 1] (w.alloc (.cells #[x] 26)) fun e w' => e = .returned (.agg ((wideB m).map bval).toArray) ∧ Below w.heap.size w w' := by
 have he := Ext.alloc w (.cells #[x] 26)
 have h := cdigested_f v _ ls [l] m _ (hv.below he) (rowB1 (Row1.made w #[x] 26 _ 1 [x] rfl rfl rfl (by unfold maxLen; omega)) (hx.below he)) (by simpa using hm) hl (by simp; omega) (hR.ext he) (hT.ext he)
 refine h.mono ?_
 rintro e w' ⟨h1, h2⟩
 exact ⟨h1, he.trans h2⟩
theorem dig_two (v a : Value) (ls : List (List UInt8)) (l k m : List UInt8) (w : World) (hv : RowB w v ls) (ha : RowB w a [l, k]) (hm : l ++ (k ++ ls.flatten) = m) (hl : m.length ≤ 1099511627776) (hc : ls.length ≤ 1000000) (hR : GlobRQ w) (hT : GlobT w) :
  Calls Tryz.prog 16 #[v, a] w fun e w' => e = .returned (.agg ((wideB m).map bval).toArray) ∧ Below w.heap.size w w' :=
 cdigested_f v a ls [l, k] m w hv ha (by simpa using hm) hl (by simp; omega) hR hT
theorem cat_two (x y : Value) (l m : List UInt8) (w : World) (hx : Row1 w x (l.map bval)) (hy : Row1 w y (m.map bval)) (hl : (l ++ m).length ≤ 1099511627776) :
  Calls Tryz.prog 35 #[.slice (some ⟨w.heap.size, 0, none⟩) 2 2] (w.alloc (.cells #[x, y] 26)) fun e w' => ∃ z, e = .returned z ∧ Row1 w' z ((l ++ m).map bval) ∧ Below w.heap.size w w' := by
 have he := Ext.alloc w (.cells #[x, y] 26)
 have h := stdConcat_any _ [l, m] _ (rowB2 (Row1.made w #[x, y] 26 _ 2 [x, y] rfl rfl rfl (by unfold maxLen; omega)) (hx.below he) (hy.below he)) (by simpa using hl)
 refine h.mono fun e w' hh => ?_
 obtain ⟨z, h1, h2, h3⟩ := hh
 rw [show [l, m].flatten = l ++ m from by simp] at h2
 exact ⟨z, h1, Row1.of_own h2, he.trans h3⟩
theorem wp_pure {P : Program} {o : Oper} {a : Act} {w : World} {K : Act → World → Prop} {Q : Exit → Act → World → Prop} (d : Option Nat) (v : Value) (hd : o.dst = d) (h : (execOp a.eval o).run P w = .ok (.value v) w) (next : K (a.put d v) w) : o.wp P a w K Q := by
 subst hd
 unfold Oper.wp
 rw [h]
 exact next
theorem edS_of {s m : List UInt8} : nq (((leN (edNum s m) : Nat) : Int) + ((leN (nq (((leN (wideB (edR s m ++ (edPub s ++ m))) : Nat) : Int) * ((leN (secA s) : Nat) : Int))) : Nat) : Int)) = edS s m := by
 unfold edS
 rfl
set_option maxRecDepth 100000 in
set_option maxHeartbeats 8000000 in
theorem CSign_num (sd : List UInt8) (v : Value) (ls : List (List UInt8)) (w : World) (hs : sd.length = 32) (hv : RowB w v ls) (hl : ls.flatten.length ≤ 1000000000000) (hc : ls.length ≤ 1000000) (hR : GlobRQ w) (hT : GlobT w) (hG : GlobC w) : Calls Tryz.prog 13 #[.agg (sd.map bval).toArray, v] w fun e w' => e = .returned (.agg ((edSign sd ls.flatten).map bval).toArray) ∧ Below w.heap.size w w' := by
 have HSL := Lib.hid hs
 clear hs
 obtain ⟨m, hmm⟩ : ∃ m, m = ls.flatten := ⟨_, rfl⟩
 have HMM := Lib.hid hmm.symm
 rw [← hmm] at hl
 have HML := Lib.hid hl
 have HCT := Lib.hid hc
 have HVB := Lib.hid hv
 have HGT := Lib.hid hT
 have HGR := Lib.hid hR
 obtain ⟨bA, bC, hbf, _⟩ := rowB_form hv
 obtain ⟨bL, hbL⟩ : ∃ n, n = ls.length := ⟨_, rfl⟩
 rw [← hbL] at hbf
 subst hbf
 obtain ⟨iq, hq0, hq1, hq2⟩ := info_two (P := Tryz.prog) (t := 26) (z := .slice none 0 0) (n := 1) (by kernel_rfl)
 have HQ0 := Lib.hid hq0
 have HQ1 := Lib.hid hq1
 have HQ2 := Lib.hid hq2
 clear hq0 hq1 hq2 hv hl hc hT hR hbL
 have HGC := Lib.hid hG
 clear hG
 have HB := Lib.hid (boxes2 w (sd.map bval) (ints .u8 (List.replicate 64 0)) 23 25)
 go_enter Tryz.func13, Tryz.ntmps13
 go_upto_region 1 with (fail)
 obtain ⟨H1, H2, HE⟩ := HB.out
 change Code.wp _ _ _ _ (World.alloc (World.alloc w (.cells (sd.map bval).toArray 23)) (.cells (ints .u8 (List.replicate 64 0)).toArray 25))
 generalize (World.alloc (World.alloc w (.cells (sd.map bval).toArray 23)) (.cells (ints .u8 (List.replicate 64 0)).toArray 25)) = wa at *
 obtain ⟨A, hA⟩ : ∃ A, A = w.heap.size := ⟨_, rfl⟩
 have HAW : Hid (w.heap.size ≤ A) := Lib.hid (by omega)
 rw [← hA] at H1 H2 ⊢
 have H1 := Lib.hid H1
 have H2 := Lib.hid H2
 have HE : Hid (Ext w wa) := Lib.hid HE
 clear hA HB
 go_wp2_with (first | (refine wpList_load_mid rfl _ _ rfl A 0 rfl _ _ (H1.out.range) Tryz.underlying23 rfl (zae HSL.out) ?_))
 refine (csecrets_f sd _ HSL.out (HGR.out.ext HE.out)).mono ?_
 rintro e w5 ⟨rfl, hb⟩
 have H1 := Lib.hid (zaa H1.out hb)
 have H2 := Lib.hid (zaa H2.out hb)
 have HE := Lib.hid (HE.out.trans hb)
 clear hb
 have HAL := Lib.hid (secA_length sd)
 have HHL := Lib.hid (secH_length sd)
 have HLA := Lib.hid (secA_lt sd)
 obtain ⟨av, hav⟩ : ∃ k, k = secA sd := ⟨_, rfl⟩
 obtain ⟨hv, hhv⟩ : ∃ k, k = secH sd := ⟨_, rfl⟩
 rw [← hav] at HAL HLA
 rw [← hhv] at HHL
 rw [← hav, ← hhv]
 have HAV := Lib.hid hav
 have HHV := Lib.hid hhv
 clear hav hhv
 have HB2 := Lib.hid (boxes2 w5 (ints .u8 (List.replicate 32 0)) (ints .u8 (List.replicate 32 0)) 23 23)
 have HL1 : Hid ((av.map bval).length = (ints .u8 (List.replicate 32 0)).length) := Lib.hid (by rw [List.length_map, HAL.out]; rfl)
 have HL2 : Hid ((hv.map bval).length = (ints .u8 (List.replicate 32 0)).length) := Lib.hid (by rw [List.length_map, HHL.out]; rfl)
 have HLT := Lib.hid (H2.out.lt)
 go_upto_region 2 with (first | (refine zac rfl _ _ _ rfl w5.heap.size (av.map bval) rfl rfl _ _ HB2.out.1 HL1.out (zae HAL.out) (zaj _) ?_; intro w6 hs1 hg1) | (refine zac rfl _ _ _ rfl (w5.heap.size + 1) (hv.map bval) rfl rfl _ _ (HB2.out.2.1.grown hg1 (by simp)) HL2.out (zae HHL.out) (zaj _) ?_; intro w7 hs2 hg2))
 have HX := Lib.hid (zad (zad HB2.out.2.2 hg1 (Nat.le_refl _)) hg2 (Nat.le_succ _))
 have HSA := Lib.hid (hs1.grown hg2 (by simp))
 have HSH := Lib.hid hs2
 obtain ⟨pa, hT⟩ : ∃ T, T = w5.heap.size := ⟨_, rfl⟩
 rw [← hT] at HSA HSH HLT ⊢
 clear hT
 have H1 := Lib.hid (zaa H1.out HX.out)
 have H2 := Lib.hid (zaa H2.out HX.out)
 have HE := Lib.hid (HE.out.trans HX.out)
 clear hs1 hs2 hg1 hg2 HX HB2 HL1 HL2
 generalize w7 = wd at *
 go_wp2_with fail
 refine zak 4 2 5 rfl (by kernel_rfl) (by kernel_rfl) (fun d v c a w h => by cases d <;> exact h) (by kernel_rfl) ?_
 refine zai _ _ pa 0 (av.map bval) _ (by rfl) rfl rfl (fun w hw => (zaa HSA.out hw).range) Tryz.underlying23 rfl (zae HAL.out) ?_
 simp only [Act.put, nrm]
 refine zah _ _ _ [] (.agg (ptF bP.es).toArray) (by rfl) rfl Tryz.call19 rfl (fun w hw => cbase_f w (HGC.out.ext (HE.out.trans hw))) ?_
 simp only [Act.put, nrm]
 refine zah _ _ _ [.agg (av.map bval).toArray, .agg (ptF bP.es).toArray] (.agg (ptF (crun bP.es (leN av) 255)).toArray) (by rfl) rfl Tryz.call32 rfl (fun w hw => ctimes_f w av bP.es HAL.out (HGC.out.ext (HE.out.trans hw))) ?_
 simp only [Act.put, nrm]
 refine zah _ _ _ [.agg (ptF (crun bP.es (leN av) 255)).toArray] (.agg ((encB (pmul (leN av) bP)).map bval).toArray) (by rfl) rfl Tryz.call17 rfl (fun w hw => (by have h := cencoded_f w (crun bP.es (leN av) 255); rwa [enc_times HLA.out] at h)) ?_
 simp only [Act.put, nrm]
 refine zaw (zel (k := 4) _ 7 (.tmp 20) (ints .u8 (List.replicate 32 0)) ((encB (pmul (leN av) bP)).map bval) rfl rfl (by kernel_rfl) (by kernel_rfl) (by kernel_rfl) (by kernel_rfl) (by kernel_rfl) rfl rfl rfl rfl (fun w => by rw [Tryz.zeroValue23]; rfl) rfl (by simp) (fun p => rfl) (by rw [List.length_map, (zbt _)]; rfl) (zae (zbt _)) (zaj _) (fun pk wk hp hb he => ?_))
 try simp only [Act.put, nrm]
 have H1 := Lib.hid (zaa H1.out he)
 have H2 := Lib.hid (zaa H2.out he)
 have HSA := Lib.hid (zaa HSA.out he)
 have HSH := Lib.hid (zaa HSH.out he)
 have HE := Lib.hid (HE.out.trans he)
 have HPk := Lib.hid hp
 clear he hp
 have HVk := Lib.hid hb
 clear hb
 obtain ⟨kb, hkb⟩ : ∃ k, k = encB (pmul (leN av) bP) := ⟨_, rfl⟩
 rw [← hkb] at HVk
 have HNkb := Lib.hid hkb
 have HLkb : Hid (kb.length = 32) := Lib.hid (by rw [hkb]; exact zbt _)
 clear hkb
 go_wp2_with fail
 refine (dig_one _ ls hv _ (hv ++ m) _ (HVB.out.below HE.out) (zcc (n := 32) HSH.out (by rw [List.length_map]; exact HHL.out) (by unfold maxLen; omega)) (by rw [HMM.out]) (by rw [List.length_append, HHL.out]; have := HML.out; omega) HCT.out (HGR.out.ext HE.out) (HGT.out.ext HE.out)).mono ?_
 rintro e w8 ⟨rfl, hb⟩
 have H1 := Lib.hid (zaa H1.out hb)
 have H2 := Lib.hid (zaa H2.out hb)
 have HSA := Lib.hid (zaa HSA.out hb)
 have HSH := Lib.hid (zaa HSH.out hb)
 have HVk := Lib.hid (zaa HVk.out hb)
 have HE := Lib.hid (HE.out.trans hb)
 clear hb
 have HOL := Lib.hid (zbn (hv ++ m))
 have HOT := Lib.hid (wideB_lt (hv ++ m))
 obtain ⟨ob, hob⟩ : ∃ k, k = wideB (hv ++ m) := ⟨_, rfl⟩
 rw [← hob] at HOL HOT ⊢
 have HOB := Lib.hid hob
 clear hob
 have HZ := Lib.hid (Blk.made w8 (ints .u8 (List.replicate 32 0)) 23)
 have HEA := Lib.hid (Ext.alloc w8 (.cells (ints .u8 (List.replicate 32 0)).toArray 23))
 have HL : Hid ((ob.map bval).length = (ints .u8 (List.replicate 32 0)).length) := Lib.hid (by rw [List.length_map, HOL.out]; rfl)
 go_upto_region 4 with (refine zac rfl _ _ _ rfl w8.heap.size (ob.map bval) rfl rfl _ _ HZ.out HL.out (zae HOL.out) (zaj _) ?_; intro w7 hb hg)
 have HX := Lib.hid (zad HEA.out hg (Nat.le_refl _))
 obtain ⟨po, hT⟩ : ∃ T, T = w8.heap.size := ⟨_, rfl⟩
 rw [← hT] at hb ⊢
 clear hT
 have H1 := Lib.hid (zaa H1.out HX.out)
 have H2 := Lib.hid (zaa H2.out HX.out)
 have HSA := Lib.hid (zaa HSA.out HX.out)
 have HSH := Lib.hid (zaa HSH.out HX.out)
 have HVk := Lib.hid (zaa HVk.out HX.out)
 have HE := Lib.hid (HE.out.trans HX.out)
 have HVo := Lib.hid hb
 clear hb hg HX HZ HEA HL
 generalize w7 = wo at *
 go_wp2_with fail
 refine zak 4 2 5 rfl (by kernel_rfl) (by kernel_rfl) (fun d v c a w h => by cases d <;> exact h) (by kernel_rfl) ?_
 refine zai _ _ po 0 (ob.map bval) _ (by rfl) rfl rfl (fun w hw => (zaa HVo.out hw).range) Tryz.underlying23 rfl (zae HOL.out) ?_
 simp only [Act.put, nrm]
 refine zah _ _ _ [] (.agg (ptF bP.es).toArray) (by rfl) rfl Tryz.call19 rfl (fun w hw => cbase_f w (HGC.out.ext (HE.out.trans hw))) ?_
 simp only [Act.put, nrm]
 refine zah _ _ _ [.agg (ob.map bval).toArray, .agg (ptF bP.es).toArray] (.agg (ptF (crun bP.es (leN ob) 255)).toArray) (by rfl) rfl Tryz.call32 rfl (fun w hw => ctimes_f w ob bP.es HOL.out (HGC.out.ext (HE.out.trans hw))) ?_
 simp only [Act.put, nrm]
 refine zah _ _ _ [.agg (ptF (crun bP.es (leN ob) 255)).toArray] (.agg ((encB (pmul (leN ob) bP)).map bval).toArray) (by rfl) rfl Tryz.call17 rfl (fun w hw => (by have h := cencoded_f w (crun bP.es (leN ob) 255); rwa [enc_times HOT.out] at h)) ?_
 simp only [Act.put, nrm]
 refine zaw (zel (k := 4) _ 9 (.tmp 28) (ints .u8 (List.replicate 32 0)) ((encB (pmul (leN ob) bP)).map bval) rfl rfl (by kernel_rfl) (by kernel_rfl) (by kernel_rfl) (by kernel_rfl) (by kernel_rfl) rfl rfl rfl rfl (fun w => by rw [Tryz.zeroValue23]; rfl) rfl (by simp) (fun p => rfl) (by rw [List.length_map, (zbt _)]; rfl) (zae (zbt _)) (zaj _) (fun pr wr hp hb he => ?_))
 try simp only [Act.put, nrm]
 have H1 := Lib.hid (zaa H1.out he)
 have H2 := Lib.hid (zaa H2.out he)
 have HSA := Lib.hid (zaa HSA.out he)
 have HSH := Lib.hid (zaa HSH.out he)
 have HVk := Lib.hid (zaa HVk.out he)
 have HVo := Lib.hid (zaa HVo.out he)
 have HE := Lib.hid (HE.out.trans he)
 have HPr := Lib.hid hp
 clear he hp
 have HVr := Lib.hid hb
 clear hb
 obtain ⟨rb, hrb⟩ : ∃ k, k = encB (pmul (leN ob) bP) := ⟨_, rfl⟩
 rw [← hrb] at HVr
 have HNrb := Lib.hid hrb
 have HLrb : Hid (rb.length = 32) := Lib.hid (by rw [hrb]; exact zbt _)
 clear hrb
 go_wp2_with fail
 go_cut [10] from 29 to 33 (fun u10 wq => ∃ gq, u10 = .pointer (some ⟨gq, 0, none⟩) ∧ wr.heap.size ≤ gq ∧ Blk wq gq ((wideB (rb ++ (kb ++ m))).map bval) 23 ∧ Ext wr wq)
 case first =>
  have B0 : Ext wr wr.drew := Ext.drew _
  refine wp_region_held_drew (S := fun w' => Ext wr w') (by kernel_rfl) B0 (fun hHeld => ?_)
  refine tke 0 (.slice bA bL bC) rfl (zcm _ (.slice bA bL bC) (by rfl) rfl rfl) hHeld ?_
  simp only [Act.put, nrm]
  refine tke 1 (.slice (some ⟨pr, 0, none⟩) 32 32) rfl (yi_slice _ _ _ _ (.pointer (some ⟨pr, 0, none⟩)) (.slice (some ⟨pr, 0, none⟩) 32 32) none none (by rfl) rfl rfl rfl rfl (fun w => cut_whole Tryz.underlying23 Tryz.sizeOf5 (by omega) _ w)) hHeld ?_
  simp only [Act.put, nrm]
  refine tke 2 (.slice (some ⟨pk, 0, none⟩) 32 32) rfl (yi_slice _ _ _ _ (.pointer (some ⟨pk, 0, none⟩)) (.slice (some ⟨pk, 0, none⟩) 32 32) none none (by rfl) rfl rfl rfl rfl (fun w => cut_whole Tryz.underlying23 Tryz.sizeOf5 (by omega) _ w)) hHeld ?_
  simp only [Act.put, nrm]
  refine wpAnyH_ready (rs := [3, 5]) (by kernel_rfl) (by simp) (AllReadyH.cons rfl (fun K hK => ?_) (AllReadyH.cons rfl (fun K hK => ?_) AllReadyH.nil))
  ·refine zao (by rfl) ?_
   refine zbr (some 32) _ _ _ _ rfl rfl #[.slice (some ⟨pr, 0, none⟩) 32 32, .slice (some ⟨pk, 0, none⟩) 32 32] iq (.slice none 0 0) Tryz.underlying35 HQ0.out HQ1.out (by rw [HQ2.out]; decide) (by rw [HQ2.out]; decide) (by rw [HQ2.out]; kernel_rfl) ?_
   obtain ⟨m1, hm1⟩ : ∃ wNew, wNew = World.alloc wr.drew (.cells #[.slice (some ⟨pr, 0, none⟩) 32 32, .slice (some ⟨pk, 0, none⟩) 32 32] 26) := ⟨_, rfl⟩
   rw [← hm1]
   have b1 : Ext wr.drew m1 := by rw [hm1]; exact Ext.alloc _ _
   obtain ⟨g1, hg1⟩ : ∃ gNew, gNew = (wr.drew).heap.size := ⟨_, rfl⟩
   rw [← hg1]
   have r1 : Row1 m1 (.slice (some ⟨g1, 0, none⟩) 2 2) [.slice (some ⟨pr, 0, none⟩) 32 32, .slice (some ⟨pk, 0, none⟩) 32 32] := by rw [hm1, hg1]; exact Row1.made _ _ _ _ _ _ rfl rfl rfl (by unfold maxLen; omega)
   clear hm1 hg1
   have N1 : Ext wr m1 := B0.trans b1
   refine hK.out _ _ N1 (fun hHeld => ?_)
   clear hK K
   try simp only [Act.put, nrm]
   refine wpAnyH_ready (rs := [4, 5]) (by kernel_rfl) (by simp) (AllReadyH.cons rfl (fun K hK => ?_) (AllReadyH.cons rfl (fun K hK => ?_) AllReadyH.nil))
   ·go_simp
    refine (dig_two _ _ ls rb kb (rb ++ (kb ++ m)) _ (HVB.out.below (HE.out.trans N1)) (rowB2 r1 ((zcc (n := 32) HVr.out (by rw [List.length_map]; exact HLrb.out) (by unfold maxLen; omega)).below N1) ((zcc (n := 32) HVk.out (by rw [List.length_map]; exact HLkb.out) (by unfold maxLen; omega)).below N1)) (by rw [HMM.out]) (by rw [List.length_append, List.length_append, HLrb.out, HLkb.out]; have := HML.out; omega) HCT.out (HGR.out.ext (HE.out.trans N1)) (HGT.out.ext (HE.out.trans N1))).mono ?_
    rintro e m2 ⟨rfl, b2⟩
    have r1 := r1.below b2
    have N2 : Ext wr m2 := N1.trans b2
    refine hK.out _ _ N2 (fun hHeld => ?_)
    clear hK K
    try simp only [Act.put, nrm]
    refine rdy 5 rfl fun K hK => ?_
    refine zao (by rfl) ?_
    refine zav (some 10) _ (ints .u8 (List.replicate 32 0)) rfl rfl (fun w => by rw [Tryz.zeroValue23]; rfl) ?_
    obtain ⟨m3, hm3⟩ : ∃ wNew, wNew = World.alloc m2 (.cells ((ints .u8 (List.replicate 32 0))).toArray 23) := ⟨_, rfl⟩
    rw [← hm3]
    have b3 : Ext m2 m3 := by rw [hm3]; exact Ext.alloc _ _
    obtain ⟨g3, hg3⟩ : ∃ gNew, gNew = (m2).heap.size := ⟨_, rfl⟩
    rw [← hg3]
    have z3 : Blk m3 g3 (ints .u8 (List.replicate 32 0)) 23 := by rw [hm3, hg3]; exact Blk.made _ _ _
    have l3 : (wr).heap.size ≤ g3 := by rw [hg3]; exact N2.size
    clear hm3 hg3
    have r1 := r1.below b3
    have N3 : Ext wr m3 := N2.trans b3
    refine hK.out _ _ N3 (fun hHeld => ?_)
    clear hK K
    try simp only [Act.put, nrm]
    refine rdy 6 rfl fun K hK => ?_
    refine zao (by rfl) ?_
    refine zal _ _ _ rfl g3 ((wideB (rb ++ (kb ++ m))).map bval) rfl rfl _ _ z3 (by rw [List.length_map, (zbn _)]; rfl) (zae ((zbn _))) (zaj _) ?_
    intro m4 hb4 hg4
    have N4 : Ext wr m4 := zad N3 hg4 l3
    refine hK.out _ _ N4 (fun hHeld => ?_)
    clear hK K
    try simp only [Act.put, nrm]
    refine dne ?_
    go_wp2_with fail
    go_meet
    exact ⟨_, rfl, l3, hb4, N4⟩
   ·refine zao (by rfl) ?_
    refine zav (some 10) _ (ints .u8 (List.replicate 32 0)) rfl rfl (fun w => by rw [Tryz.zeroValue23]; rfl) ?_
    obtain ⟨m2, hm2⟩ : ∃ wNew, wNew = World.alloc m1 (.cells ((ints .u8 (List.replicate 32 0))).toArray 23) := ⟨_, rfl⟩
    rw [← hm2]
    have b2 : Ext m1 m2 := by rw [hm2]; exact Ext.alloc _ _
    obtain ⟨g2, hg2⟩ : ∃ gNew, gNew = (m1).heap.size := ⟨_, rfl⟩
    rw [← hg2]
    have z2 : Blk m2 g2 (ints .u8 (List.replicate 32 0)) 23 := by rw [hm2, hg2]; exact Blk.made _ _ _
    have l2 : (wr).heap.size ≤ g2 := by rw [hg2]; exact N1.size
    clear hm2 hg2
    have r1 := r1.below b2
    have N2 : Ext wr m2 := N1.trans b2
    refine hK.out _ _ N2 (fun hHeld => ?_)
    clear hK K
    try simp only [Act.put, nrm]
    refine rdy 4 rfl fun K hK => ?_
    go_simp
    refine (dig_two _ _ ls rb kb (rb ++ (kb ++ m)) _ (HVB.out.below (HE.out.trans N2)) (rowB2 r1 ((zcc (n := 32) HVr.out (by rw [List.length_map]; exact HLrb.out) (by unfold maxLen; omega)).below N2) ((zcc (n := 32) HVk.out (by rw [List.length_map]; exact HLkb.out) (by unfold maxLen; omega)).below N2)) (by rw [HMM.out]) (by rw [List.length_append, List.length_append, HLrb.out, HLkb.out]; have := HML.out; omega) HCT.out (HGR.out.ext (HE.out.trans N2)) (HGT.out.ext (HE.out.trans N2))).mono ?_
    rintro e m3 ⟨rfl, b3⟩
    have r1 := r1.below b3
    have z2 := z2.below b3
    have N3 : Ext wr m3 := N2.trans b3
    refine hK.out _ _ N3 (fun hHeld => ?_)
    clear hK K
    try simp only [Act.put, nrm]
    refine rdy 6 rfl fun K hK => ?_
    refine zao (by rfl) ?_
    refine zal _ _ _ rfl g2 ((wideB (rb ++ (kb ++ m))).map bval) rfl rfl _ _ z2 (by rw [List.length_map, (zbn _)]; rfl) (zae ((zbn _))) (zaj _) ?_
    intro m4 hb4 hg4
    have N4 : Ext wr m4 := zad N3 hg4 l2
    refine hK.out _ _ N4 (fun hHeld => ?_)
    clear hK K
    try simp only [Act.put, nrm]
    refine dne ?_
    go_wp2_with fail
    go_meet
    exact ⟨_, rfl, l2, hb4, N4⟩
  ·refine zao (by rfl) ?_
   refine zav (some 10) _ (ints .u8 (List.replicate 32 0)) rfl rfl (fun w => by rw [Tryz.zeroValue23]; rfl) ?_
   obtain ⟨m1, hm1⟩ : ∃ wNew, wNew = World.alloc wr.drew (.cells ((ints .u8 (List.replicate 32 0))).toArray 23) := ⟨_, rfl⟩
   rw [← hm1]
   have b1 : Ext wr.drew m1 := by rw [hm1]; exact Ext.alloc _ _
   obtain ⟨g1, hg1⟩ : ∃ gNew, gNew = (wr.drew).heap.size := ⟨_, rfl⟩
   rw [← hg1]
   have z1 : Blk m1 g1 (ints .u8 (List.replicate 32 0)) 23 := by rw [hm1, hg1]; exact Blk.made _ _ _
   have l1 : (wr).heap.size ≤ g1 := by rw [hg1]; exact B0.size
   clear hm1 hg1
   have N1 : Ext wr m1 := B0.trans b1
   refine hK.out _ _ N1 (fun hHeld => ?_)
   clear hK K
   try simp only [Act.put, nrm]
   refine rdy 3 rfl fun K hK => ?_
   refine zao (by rfl) ?_
   refine zbr (some 32) _ _ _ _ rfl rfl #[.slice (some ⟨pr, 0, none⟩) 32 32, .slice (some ⟨pk, 0, none⟩) 32 32] iq (.slice none 0 0) Tryz.underlying35 HQ0.out HQ1.out (by rw [HQ2.out]; decide) (by rw [HQ2.out]; decide) (by rw [HQ2.out]; kernel_rfl) ?_
   obtain ⟨m2, hm2⟩ : ∃ wNew, wNew = World.alloc m1 (.cells #[.slice (some ⟨pr, 0, none⟩) 32 32, .slice (some ⟨pk, 0, none⟩) 32 32] 26) := ⟨_, rfl⟩
   rw [← hm2]
   have b2 : Ext m1 m2 := by rw [hm2]; exact Ext.alloc _ _
   obtain ⟨g2, hg2⟩ : ∃ gNew, gNew = (m1).heap.size := ⟨_, rfl⟩
   rw [← hg2]
   have z1 := z1.below b2
   have r2 : Row1 m2 (.slice (some ⟨g2, 0, none⟩) 2 2) [.slice (some ⟨pr, 0, none⟩) 32 32, .slice (some ⟨pk, 0, none⟩) 32 32] := by rw [hm2, hg2]; exact Row1.made _ _ _ _ _ _ rfl rfl rfl (by unfold maxLen; omega)
   clear hm2 hg2
   have N2 : Ext wr m2 := N1.trans b2
   refine hK.out _ _ N2 (fun hHeld => ?_)
   clear hK K
   try simp only [Act.put, nrm]
   refine rdy 4 rfl fun K hK => ?_
   go_simp
   refine (dig_two _ _ ls rb kb (rb ++ (kb ++ m)) _ (HVB.out.below (HE.out.trans N2)) (rowB2 r2 ((zcc (n := 32) HVr.out (by rw [List.length_map]; exact HLrb.out) (by unfold maxLen; omega)).below N2) ((zcc (n := 32) HVk.out (by rw [List.length_map]; exact HLkb.out) (by unfold maxLen; omega)).below N2)) (by rw [HMM.out]) (by rw [List.length_append, List.length_append, HLrb.out, HLkb.out]; have := HML.out; omega) HCT.out (HGR.out.ext (HE.out.trans N2)) (HGT.out.ext (HE.out.trans N2))).mono ?_
   rintro e m3 ⟨rfl, b3⟩
   have r2 := r2.below b3
   have z1 := z1.below b3
   have N3 : Ext wr m3 := N2.trans b3
   refine hK.out _ _ N3 (fun hHeld => ?_)
   clear hK K
   try simp only [Act.put, nrm]
   refine rdy 6 rfl fun K hK => ?_
   refine zao (by rfl) ?_
   refine zal _ _ _ rfl g1 ((wideB (rb ++ (kb ++ m))).map bval) rfl rfl _ _ z1 (by rw [List.length_map, (zbn _)]; rfl) (zae ((zbn _))) (zaj _) ?_
   intro m4 hb4 hg4
   have N4 : Ext wr m4 := zad N3 hg4 l1
   refine hK.out _ _ N4 (fun hHeld => ?_)
   clear hK K
   try simp only [Act.put, nrm]
   refine dne ?_
   go_wp2_with fail
   go_meet
   exact ⟨_, rfl, l1, hb4, N4⟩
 case rest =>
  obtain ⟨pq, rfl, hp0, hb0, hX⟩ := hcut
  have H1 := Lib.hid (zaa H1.out hX)
  have H2 := Lib.hid (zaa H2.out hX)
  have HSA := Lib.hid (zaa HSA.out hX)
  have HSH := Lib.hid (zaa HSH.out hX)
  have HVk := Lib.hid (zaa HVk.out hX)
  have HVo := Lib.hid (zaa HVo.out hX)
  have HVr := Lib.hid (zaa HVr.out hX)
  have HE := Lib.hid (HE.out.trans hX)
  have HPq := Lib.hid hp0
  clear hX hp0
  generalize wc = wq at *
  have HVq := Lib.hid hb0
  clear hb0
  obtain ⟨qb, hqb⟩ : ∃ k, k = wideB (rb ++ (kb ++ m)) := ⟨_, rfl⟩
  rw [← hqb] at HVq
  have HNqb := Lib.hid hqb
  have HLqb : Hid (qb.length = 32) := Lib.hid (by rw [hqb]; exact zbn _)
  clear hqb
  go_wp2_with fail
  refine zak 5 2 6 rfl (by kernel_rfl) (by kernel_rfl) (fun d v c a w h => by cases d <;> exact h) (by kernel_rfl) ?_
  refine zai _ _ po 0 (ob.map bval) _ (by rfl) rfl rfl (fun w hw => (zaa HVo.out hw).range) Tryz.underlying23 rfl (zae HOL.out) ?_
  simp only [Act.put, nrm]
  refine zai _ _ pq 0 (qb.map bval) _ (by rfl) rfl rfl (fun w hw => (zaa HVq.out hw).range) Tryz.underlying23 rfl (zae HLqb.out) ?_
  simp only [Act.put, nrm]
  refine zai _ _ pa 0 (av.map bval) _ (by rfl) rfl rfl (fun w hw => (zaa HSA.out hw).range) Tryz.underlying23 rfl (zae HAL.out) ?_
  simp only [Act.put, nrm]
  refine zah _ _ _ [.agg (qb.map bval).toArray, .agg (av.map bval).toArray] (.agg ((nq (((leN qb : Nat) : Int) * ((leN av : Nat) : Int))).map bval).toArray) (by rfl) rfl Tryz.call34 rfl (fun w hw => scl_Mul_num qb av w HLqb.out HAL.out (HGT.out.ext (HE.out.trans hw))) ?_
  simp only [Act.put, nrm]
  refine zah _ _ _ [.agg (ob.map bval).toArray, .agg ((nq (((leN qb : Nat) : Int) * ((leN av : Nat) : Int))).map bval).toArray] (.agg ((nq (((leN ob : Nat) : Int) + ((leN (nq (((leN qb : Nat) : Int) * ((leN av : Nat) : Int))) : Nat) : Int))).map bval).toArray) (by rfl) rfl Tryz.call33 rfl (fun w hw => scl_Add_num ob _ w HOL.out (zbu _) (HGT.out.ext (HE.out.trans hw))) ?_
  simp only [Act.put, nrm]
  refine zaw (zel (k := 5) _ 11 (.tmp 38) (ints .u8 (List.replicate 32 0)) ((nq (((leN ob : Nat) : Int) + ((leN (nq (((leN qb : Nat) : Int) * ((leN av : Nat) : Int))) : Nat) : Int))).map bval) rfl rfl (by kernel_rfl) (by kernel_rfl) (by kernel_rfl) (by kernel_rfl) (by kernel_rfl) rfl rfl rfl rfl (fun w => by rw [Tryz.zeroValue23]; rfl) rfl (by simp) (fun p => rfl) (by rw [List.length_map, (zbu _)]; rfl) (zae (zbu _)) (zaj _) (fun ps ws hp hb he => ?_))
  try simp only [Act.put, nrm]
  have H1 := Lib.hid (zaa H1.out he)
  have H2 := Lib.hid (zaa H2.out he)
  have HSA := Lib.hid (zaa HSA.out he)
  have HSH := Lib.hid (zaa HSH.out he)
  have HVk := Lib.hid (zaa HVk.out he)
  have HVo := Lib.hid (zaa HVo.out he)
  have HVr := Lib.hid (zaa HVr.out he)
  have HVq := Lib.hid (zaa HVq.out he)
  have HE := Lib.hid (HE.out.trans he)
  have HPs := Lib.hid hp
  clear he hp
  have HVs := Lib.hid hb
  clear hb
  obtain ⟨sb, hsb⟩ : ∃ k, k = nq (((leN ob : Nat) : Int) + ((leN (nq (((leN qb : Nat) : Int) * ((leN av : Nat) : Int))) : Nat) : Int)) := ⟨_, rfl⟩
  rw [← hsb] at HVs
  have HNsb := Lib.hid hsb
  have HLsb : Hid (sb.length = 32) := Lib.hid (by rw [hsb]; exact zbu _)
  clear hsb
  go_wp2_with fail
  refine zak 2 5 2 rfl (by kernel_rfl) (by kernel_rfl) (fun d v c a w h => by cases d <;> exact h) (by kernel_rfl) ?_
  refine zbd (.slice (some ⟨pr, 0, none⟩) 32 32) (by rfl) (fun w hw => by go_simp) ?_
  simp only [Act.put, nrm]
  refine zbd (.slice (some ⟨ps, 0, none⟩) 32 32) (by rfl) (fun w hw => by go_simp) ?_
  simp only [Act.put, nrm]
  refine zaw (end_free (by kernel_rfl) (by rw [show Region.ready _ _ _ = [2] from by kernel_rfl]; simp) (fun wx hwx => ?_))
  have H1 := Lib.hid (zaa H1.out hwx)
  have H2 := Lib.hid (zaa H2.out hwx)
  have HSA := Lib.hid (zaa HSA.out hwx)
  have HSH := Lib.hid (zaa HSH.out hwx)
  have HVk := Lib.hid (zaa HVk.out hwx)
  have HVo := Lib.hid (zaa HVo.out hwx)
  have HVr := Lib.hid (zaa HVr.out hwx)
  have HVq := Lib.hid (zaa HVq.out hwx)
  have HVs := Lib.hid (zaa HVs.out hwx)
  have HE := Lib.hid (HE.out.trans hwx)
  clear hwx
  refine any_one (k := 2) rfl (by kernel_rfl) rfl ?_
  refine zbr (some 41) _ _ _ _ rfl rfl #[.slice (some ⟨pr, 0, none⟩) 32 32, .slice (some ⟨ps, 0, none⟩) 32 32] iq (.slice none 0 0) Tryz.underlying35 HQ0.out HQ1.out (by rw [HQ2.out]; decide) (by rw [HQ2.out]; decide) (by rw [HQ2.out]; kernel_rfl) ?_
  simp only [Act.put, nrm]
  refine any_one (k := 3) rfl (by kernel_rfl) rfl ?_
  go_simp
  have HRr := zcc (n := 32) HVr.out (by rw [List.length_map]; exact HLrb.out) (by unfold maxLen; omega)
  have HRs := zcc (n := 32) HVs.out (by rw [List.length_map]; exact HLsb.out) (by unfold maxLen; omega)
  refine (cat_two _ _ rb sb wx HRr HRs (by rw [List.length_append, HLrb.out, HLsb.out]; omega)).mono ?_
  rintro e wy ⟨z, rfl, hz, hb⟩
  have H1 := Lib.hid (zaa H1.out hb)
  have H2 := Lib.hid (zaa H2.out hb)
  have HSA := Lib.hid (zaa HSA.out hb)
  have HSH := Lib.hid (zaa HSH.out hb)
  have HVk := Lib.hid (zaa HVk.out hb)
  have HVo := Lib.hid (zaa HVo.out hb)
  have HVr := Lib.hid (zaa HVr.out hb)
  have HVq := Lib.hid (zaa HVq.out hb)
  have HVs := Lib.hid (zaa HVs.out hb)
  have HE := Lib.hid (HE.out.trans hb)
  clear hb
  obtain ⟨za, zc, hzf, _, _, _, hcell⟩ := hz
  rw [show ((rb ++ sb).map bval).length = 64 from by rw [List.length_map, List.length_append, HLrb.out, HLsb.out]] at hcell hzf
  subst hzf
  obtain ⟨zb, zo, rfl, _, hcell⟩ := hcell (by intro h; have h2 := congrArg List.length h; rw [List.length_map, List.length_append, HLrb.out, HLsb.out] at h2; cases h2)
  have HLG : Hid ((rb ++ sb).length = 64) := Lib.hid (by rw [List.length_append, HLrb.out, HLsb.out])
  have hrg : wy.rangeAt zb zo ((rb ++ sb).map bval) := fun j x hj => by
   have hj2 : j < 64 := by
    rcases Nat.lt_or_ge j 64 with h | h
    ·exact h
    ·rw [List.getElem?_eq_none (by rw [List.length_map, HLG.out]; omega)] at hj; cases hj
   rw [hcell j hj2]; exact hj
  obtain ⟨gb, hgb⟩ : ∃ k, k = rb ++ sb := ⟨_, rfl⟩
  rw [← hgb] at HLG hrg
  have HGB := Lib.hid hgb
  clear hcell hgb HRr HRs
  simp only [Act.put, nrm]
  refine any_one (k := 4) rfl (by kernel_rfl) rfl ?_
  refine wp_pure (some 43) (.pointer (some ⟨zb, zo, none⟩)) rfl (by have hat := run_arr_at (P := Tryz.prog) Tryz.underlying25 (some ⟨zb, zo, none⟩) 64 zc (Nat.le_refl _) wy; go_simp) ?_
  simp only [Act.put, nrm]
  refine any_one (k := 5) rfl (by kernel_rfl) rfl ?_
  refine wp_load_mid _ _ rfl zb zo rfl (gb.map bval) _ hrg Tryz.underlying25 rfl (zce HLG.out) ?_
  simp only [Act.put, nrm]
  refine any_one (k := 6) rfl (by kernel_rfl) rfl ?_
  refine zal _ _ _ rfl (A + 1) (gb.map bval) rfl rfl _ _ H2.out (by rw [List.length_map, HLG.out]; rfl) (zce HLG.out) (zaj _) ?_
  intro w9 hb9 hg9
  refine any_nil (by kernel_rfl) ?_
  go_wp2_with fail
  refine bodyPost_ret (zax (by rfl) _ (A + 1) _ _ _ (by rfl) hb9 Tryz.underlying25 rfl (zce HLG.out)) rfl ⟨?_, zad HE.out hg9 (by have := HAW.out; omega)⟩
  have hk1 : kb = edPub sd := by rw [HNkb.out, HAV.out]; rfl
  have ho1 : ob = edNum sd m := by rw [HOB.out, HHV.out]; rfl
  have hr1 : rb = edR sd m := by rw [HNrb.out, ho1]; rfl
  have hs1 : sb = edS sd m := by rw [HNsb.out, HNqb.out, hr1, hk1, ho1, HAV.out]; exact edS_of
  rw [HGB.out, hr1, hs1, HMM.out]
  rfl
def sgC (r s : List UInt8) : List Value := r.map bval ++ s.map bval
theorem sgC_eq (g : List UInt8) : sgC (g.take 32) (g.drop 32) = g.map bval := by
 unfold sgC
 rw [← List.map_append, List.take_append_drop]
theorem mayB_some {n : List UInt8} (h : mayB n = true) : ∃ P, encB P = n := @of_decide_eq_true _ (Classical.propDecidable _) h
theorem mayB_none {n : List UInt8} (h : mayB n = false) : ¬ edMay n := @of_decide_eq_false _ (Classical.propDecidable _) h
theorem lessB_lt {l : List UInt8} (h : lessB l = true) : leN l < 2 ^ 255 := by
 unfold lessB at h
 rw [decide_eq_true_iff, ← qB_q] at h
 exact Nat.lt_trans (Int.ofNat_lt.1 h) (by decide +kernel)
theorem ver_dec {key r s m : List UInt8} {P : Pt} (hr : r.length = 32) (hP : encB P = key) (hs : lessB s = true) :
  decide (encB (padd (pmul (leN s) bP) (pmul (leN (wideB (r ++ (key ++ m)))) (pneg P))) = r) = verB key (r ++ s) m := by
 have h := ver_code (key := key) (g := r ++ s) (m := m) hP
 have h1 : (r ++ s).take 32 = r := by rw [List.take_append_of_le_length (by omega), List.take_of_length_le (by omega)]
 have h2 : (r ++ s).drop 32 = s := by rw [List.drop_append, List.drop_eq_nil_of_le (by omega), List.nil_append, hr, Nat.sub_self, List.drop_zero]
 rw [h1, h2] at h
 by_cases he : encB (padd (pmul (leN s) bP) (pmul (leN (wideB (r ++ (key ++ m)))) (pneg P))) = r
 ·rw [decide_eq_true he, verB_true (h.2 ⟨hs, he⟩)]
 ·rw [decide_eq_false he, zeo (fun hv => he (h.1 hv).2)]
theorem ver_low {key r s m : List UInt8} (hr : r.length = 32) (hs : lessB s = false) : verB key (r ++ s) m = false := by
 refine zeo (ver_great ?_)
 have h2 : (r ++ s).drop 32 = s := by rw [List.drop_append, List.drop_eq_nil_of_le (by omega), List.nil_append, hr, Nat.sub_self, List.drop_zero]
 rw [h2]
 exact hs
theorem enc_together {a b : List UInt8} {P : Pt} (ha : leN a < 2 ^ 255) (hb : leN b < 2 ^ 255) : encS (trun bP.es P.es.neg (leN a) (leN b) 255) = encB (padd (pmul (leN a) bP) (pmul (leN b) (pneg P))) :=
 encS_is (trun_full bP.es_is P.es_is.neg ha hb)
set_option maxRecDepth 100000 in
set_option maxHeartbeats 8000000 in
theorem cver_two (key rb sb : List UInt8) (v : Value) (ls : List (List UInt8)) (w : World) (hk : key.length = 32) (hr : rb.length = 32) (hs : sb.length = 32) (hv : RowB w v ls) (hl : ls.flatten.length ≤ 1000000000000) (hc : ls.length ≤ 1000000) (hR : GlobRQ w) (hT : GlobT w) (hG : GlobC w) : Calls Tryz.prog 6 #[.agg (key.map bval).toArray, .agg (sgC rb sb).toArray, v] w fun e w' => e = .returned (.bool (verB key (rb ++ sb) ls.flatten)) ∧ Below w.heap.size w w' := by
 have HKL := Lib.hid hk
 have HRL := Lib.hid hr
 have HSL := Lib.hid hs
 clear hk hr hs
 obtain ⟨m, hmm⟩ : ∃ m, m = ls.flatten := ⟨_, rfl⟩
 have HMM := Lib.hid hmm.symm
 rw [← hmm] at hl
 have HML := Lib.hid hl
 have HCT := Lib.hid hc
 have HVB := Lib.hid hv
 have HGT := Lib.hid hT
 have HGR := Lib.hid hR
 obtain ⟨bA, bC, hbf, _⟩ := rowB_form hv
 obtain ⟨bL, hbL⟩ : ∃ n, n = ls.length := ⟨_, rfl⟩
 rw [← hbL] at hbf
 subst hbf
 obtain ⟨iq, hq0, hq1, hq2⟩ := info_two (P := Tryz.prog) (t := 26) (z := .slice none 0 0) (n := 1) (by kernel_rfl)
 have HQ0 := Lib.hid hq0
 have HQ1 := Lib.hid hq1
 have HQ2 := Lib.hid hq2
 clear hq0 hq1 hq2 hv hl hc hT hR hbL
 have HGC := Lib.hid hG
 clear hG
 have HB := Lib.hid (boxes2 w (key.map bval) (sgC rb sb) 23 25)
 go_enter Tryz.func6, Tryz.ntmps6
 go_upto_region 1 with (fail)
 obtain ⟨H1, H2, HE⟩ := HB.out
 change Code.wp _ _ _ _ (World.alloc (World.alloc w (.cells (key.map bval).toArray 23)) (.cells (sgC rb sb).toArray 25))
 generalize (World.alloc (World.alloc w (.cells (key.map bval).toArray 23)) (.cells (sgC rb sb).toArray 25)) = wa at *
 obtain ⟨A, hA⟩ : ∃ A, A = w.heap.size := ⟨_, rfl⟩
 have HAW : Hid (w.heap.size ≤ A) := Lib.hid (by omega)
 rw [← hA] at H1 H2 ⊢
 have H1 := Lib.hid H1
 have H2 := Lib.hid H2
 have HE : Hid (Ext w wa) := Lib.hid HE
 clear hA HB
 have hat1 := run_arr_at (P := Tryz.prog) Tryz.underlying23 (some ⟨A + 1, 0, none⟩) 32 64 (Nat.le_refl _)
 have hat2 := run_arr_at (P := Tryz.prog) Tryz.underlying23 (some ⟨A + 1, 32, none⟩) 32 32 (Nat.le_refl _)
 have HLA := Lib.hid H2.out.lt
 refine zak 6 4 8 rfl (by kernel_rfl) (by kernel_rfl) (fun d v c a w h => by cases d <;> exact h) (by kernel_rfl) ?_
 refine zbd (.slice (some ⟨A + 1, 0, none⟩) 32 64) (by rfl) (fun w hw => by go_simp) ?_
 simp only [Act.put, nrm]
 refine zbd (.pointer (some ⟨A + 1, 0, none⟩)) (by rfl) (fun w hw => by go_simp) ?_
 simp only [Act.put, nrm]
 refine zai _ _ (A + 1) 0 (rb.map bval) _ (by rfl) rfl rfl (fun w hw => rng_lo (zaa H2.out hw).range) Tryz.underlying23 rfl (zae HRL.out) ?_
 simp only [Act.put, nrm]
 refine zbd (.slice (some ⟨A + 1, 32, none⟩) 32 32) (by rfl) (fun w hw => by go_simp) ?_
 simp only [Act.put, nrm]
 refine zbd (.pointer (some ⟨A + 1, 32, none⟩)) (by rfl) (fun w hw => by go_simp) ?_
 simp only [Act.put, nrm]
 refine zai _ _ (A + 1) 32 (sb.map bval) _ (by rfl) rfl rfl (fun w hw => rng_hi (m := 32) (zaa H2.out hw).range (by rw [List.length_map]; exact HRL.out) rfl) Tryz.underlying23 rfl (zae HSL.out) ?_
 simp only [Act.put, nrm]
 refine zaw (end_var2 (k := 6) 23 7 8 (.tmp 14) (.tmp 17) (ints .u8 (List.replicate 32 0)) (rb.map bval) (sb.map bval) rfl rfl rfl rfl (by kernel_rfl) (by kernel_rfl) (by kernel_rfl) (by kernel_rfl) (by kernel_rfl) (by kernel_rfl) (by kernel_rfl) (by kernel_rfl) (by kernel_rfl) (by kernel_rfl) rfl rfl rfl rfl rfl rfl rfl rfl (by decide) (fun w => by rw [Tryz.zeroValue23]; rfl) rfl rfl rfl rfl (by simp) (by simp) (fun p q => rfl) (fun p q => rfl) (by rw [List.length_map, HRL.out]; rfl) (by rw [List.length_map, HSL.out]; rfl) (zae HRL.out) (zae HSL.out) (zaj _) (zaj _) (fun pr ps ws hpq hp1 hp2 hb1 hb2 he => ?_))
 try simp only [Act.put, nrm]
 have H1 := Lib.hid (zaa H1.out he)
 have H2 := Lib.hid (zaa H2.out he)
 have HE := Lib.hid (HE.out.trans he)
 have HPQ := Lib.hid hpq
 have HPr := Lib.hid hp1
 have HPs := Lib.hid hp2
 clear he hpq hp1 hp2
 have HVr := Lib.hid hb1
 have HVs := Lib.hid hb2
 clear hb1 hb2
 clear hat1 hat2
 go_wp2_with (first | (refine wpList_load_mid rfl _ _ rfl A 0 rfl _ _ (H1.out.range) Tryz.underlying23 rfl (zae HKL.out) ?_))
 refine (cdecoded_f _ key HKL.out (HGC.out.ext HE.out)).mono ?_
 rintro e w8 ⟨rfl, hb⟩
 have H1 := Lib.hid (zaa H1.out hb)
 have H2 := Lib.hid (zaa H2.out hb)
 have HVr := Lib.hid (zaa HVr.out hb)
 have HVs := Lib.hid (zaa HVs.out hb)
 have HE := Lib.hid (HE.out.trans hb)
 clear hb
 obtain ⟨es, hes⟩ : ∃ k, k = decE key := ⟨_, rfl⟩
 obtain ⟨mb, hmb⟩ : ∃ k, k = mayB key := ⟨_, rfl⟩
 rw [← hes, ← hmb]
 have HES := Lib.hid hes
 have HMB := Lib.hid hmb
 clear hes hmb
 have HZ := Lib.hid (Blk.made w8 zq 37)
 have HEA := Lib.hid (Ext.alloc w8 (.cells zq.toArray 37))
 have HL : Hid ((ptF es).length = zq.length) := Lib.hid ((zbb _).trans zq_length.symm)
 go_upto_region 3 with (refine zac rfl _ _ _ rfl w8.heap.size (ptF es) rfl rfl _ _ HZ.out HL.out (zaz _) (zch _) ?_; intro w7 hb hg)
 have HX := Lib.hid (zad HEA.out hg (Nat.le_refl _))
 generalize w8.heap.size = pa at *
 have H1 := Lib.hid (zaa H1.out HX.out)
 have H2 := Lib.hid (zaa H2.out HX.out)
 have HVr := Lib.hid (zaa HVr.out HX.out)
 have HVs := Lib.hid (zaa HVs.out HX.out)
 have HE := Lib.hid (HE.out.trans HX.out)
 have HVa := Lib.hid hb
 clear hb hg HX HZ HEA HL
 generalize w7 = w9 at *
 cases mb
 ·skip
  have HV : Hid (verB key (rb ++ sb) ls.flatten = false) := Lib.hid (zeo (ver_no_key (mayB_none HMB.out.symm)))
  go_wp2_with fail
  go_ret
  exact ⟨by rw [HV.out]; rfl, HE.out⟩
 ·obtain ⟨P, hP⟩ := mayB_some HMB.out.symm
  have HPK := Lib.hid hP
  have hes : es = P.es := by rw [HES.out]; exact decE_of hP
  subst hes
  clear hP HES HMB
  go_wp2_with (refine zcu (by rfl) _ _ rfl ps rfl _ _ _ _ HVs.out Tryz.underlying23 (zae HSL.out) ?_)
  refine (Less_num sb _ HSL.out (HGT.out.ext HE.out)).mono ?_
  rintro e wl ⟨rfl, hb⟩
  have H1 := Lib.hid (zaa H1.out hb)
  have H2 := Lib.hid (zaa H2.out hb)
  have HVr := Lib.hid (zaa HVr.out hb)
  have HVs := Lib.hid (zaa HVs.out hb)
  have HVa := Lib.hid (zaa HVa.out hb)
  have HE := Lib.hid (HE.out.trans hb)
  clear hb
  obtain ⟨lb, hlb⟩ : ∃ k, lessB sb = k := ⟨_, rfl⟩
  rw [hlb]
  have HLB := Lib.hid hlb
  clear hlb
  cases lb
  ·skip
   have HV : Hid (verB key (rb ++ sb) ls.flatten = false) := Lib.hid (ver_low HRL.out HLB.out)
   go_wp2_with fail
   go_ret
   exact ⟨by rw [HV.out]; rfl, HE.out⟩
  ·go_wp2_with fail
   have HLS := Lib.hid (lessB_lt HLB.out)
   go_cut [11] from 30 to 34 (fun u11 wq => ∃ gq, u11 = .pointer (some ⟨gq, 0, none⟩) ∧ wl.heap.size ≤ gq ∧ Blk wq gq ((wideB (rb ++ (key ++ m))).map bval) 23 ∧ Ext wl wq)
   case first =>
    have B0 : Ext wl wl.drew := Ext.drew _
    refine wp_region_held_drew (S := fun w' => Ext wl w') (by kernel_rfl) B0 (fun hHeld => ?_)
    refine tke 0 (.slice bA bL bC) rfl (zcm _ (.slice bA bL bC) (by rfl) rfl rfl) hHeld ?_
    simp only [Act.put, nrm]
    refine tke 1 (.slice (some ⟨pr, 0, none⟩) 32 32) rfl (yi_slice _ _ _ _ (.pointer (some ⟨pr, 0, none⟩)) (.slice (some ⟨pr, 0, none⟩) 32 32) none none (by rfl) rfl rfl rfl rfl (fun w => cut_whole Tryz.underlying23 Tryz.sizeOf5 (by omega) _ w)) hHeld ?_
    simp only [Act.put, nrm]
    refine tke 2 (.slice (some ⟨A, 0, none⟩) 32 32) rfl (yi_slice _ _ _ _ (.pointer (some ⟨A, 0, none⟩)) (.slice (some ⟨A, 0, none⟩) 32 32) none none (by rfl) rfl rfl rfl rfl (fun w => cut_whole Tryz.underlying23 Tryz.sizeOf5 (by omega) _ w)) hHeld ?_
    simp only [Act.put, nrm]
    refine wpAnyH_ready (rs := [3, 5]) (by kernel_rfl) (by simp) (AllReadyH.cons rfl (fun K hK => ?_) (AllReadyH.cons rfl (fun K hK => ?_) AllReadyH.nil))
    ·refine zao (by rfl) ?_
     refine zbr (some 33) _ _ _ _ rfl rfl #[.slice (some ⟨pr, 0, none⟩) 32 32, .slice (some ⟨A, 0, none⟩) 32 32] iq (.slice none 0 0) Tryz.underlying35 HQ0.out HQ1.out (by rw [HQ2.out]; decide) (by rw [HQ2.out]; decide) (by rw [HQ2.out]; kernel_rfl) ?_
     obtain ⟨m1, hm1⟩ : ∃ wNew, wNew = World.alloc wl.drew (.cells #[.slice (some ⟨pr, 0, none⟩) 32 32, .slice (some ⟨A, 0, none⟩) 32 32] 26) := ⟨_, rfl⟩
     rw [← hm1]
     have b1 : Ext wl.drew m1 := by rw [hm1]; exact Ext.alloc _ _
     obtain ⟨g1, hg1⟩ : ∃ gNew, gNew = (wl.drew).heap.size := ⟨_, rfl⟩
     rw [← hg1]
     have r1 : Row1 m1 (.slice (some ⟨g1, 0, none⟩) 2 2) [.slice (some ⟨pr, 0, none⟩) 32 32, .slice (some ⟨A, 0, none⟩) 32 32] := by rw [hm1, hg1]; exact Row1.made _ _ _ _ _ _ rfl rfl rfl (by unfold maxLen; omega)
     clear hm1 hg1
     have N1 : Ext wl m1 := B0.trans b1
     refine hK.out _ _ N1 (fun hHeld => ?_)
     clear hK K
     try simp only [Act.put, nrm]
     refine wpAnyH_ready (rs := [4, 5]) (by kernel_rfl) (by simp) (AllReadyH.cons rfl (fun K hK => ?_) (AllReadyH.cons rfl (fun K hK => ?_) AllReadyH.nil))
     ·go_simp
      refine (dig_two _ _ ls rb key (rb ++ (key ++ m)) _ (HVB.out.below (HE.out.trans N1)) (rowB2 r1 ((zcc (n := 32) HVr.out (by rw [List.length_map]; exact HRL.out) (by unfold maxLen; omega)).below N1) ((zcc (n := 32) H1.out (by rw [List.length_map]; exact HKL.out) (by unfold maxLen; omega)).below N1)) (by rw [HMM.out]) (by rw [List.length_append, List.length_append, HRL.out, HKL.out]; have := HML.out; omega) HCT.out (HGR.out.ext (HE.out.trans N1)) (HGT.out.ext (HE.out.trans N1))).mono ?_
      rintro e m2 ⟨rfl, b2⟩
      have r1 := r1.below b2
      have N2 : Ext wl m2 := N1.trans b2
      refine hK.out _ _ N2 (fun hHeld => ?_)
      clear hK K
      try simp only [Act.put, nrm]
      refine rdy 5 rfl fun K hK => ?_
      refine zao (by rfl) ?_
      refine zav (some 11) _ (ints .u8 (List.replicate 32 0)) rfl rfl (fun w => by rw [Tryz.zeroValue23]; rfl) ?_
      obtain ⟨m3, hm3⟩ : ∃ wNew, wNew = World.alloc m2 (.cells ((ints .u8 (List.replicate 32 0))).toArray 23) := ⟨_, rfl⟩
      rw [← hm3]
      have b3 : Ext m2 m3 := by rw [hm3]; exact Ext.alloc _ _
      obtain ⟨g3, hg3⟩ : ∃ gNew, gNew = (m2).heap.size := ⟨_, rfl⟩
      rw [← hg3]
      have z3 : Blk m3 g3 (ints .u8 (List.replicate 32 0)) 23 := by rw [hm3, hg3]; exact Blk.made _ _ _
      have l3 : (wl).heap.size ≤ g3 := by rw [hg3]; exact N2.size
      clear hm3 hg3
      have r1 := r1.below b3
      have N3 : Ext wl m3 := N2.trans b3
      refine hK.out _ _ N3 (fun hHeld => ?_)
      clear hK K
      try simp only [Act.put, nrm]
      refine rdy 6 rfl fun K hK => ?_
      refine zao (by rfl) ?_
      refine zal _ _ _ rfl g3 ((wideB (rb ++ (key ++ m))).map bval) rfl rfl _ _ z3 (by rw [List.length_map, (zbn _)]; rfl) (zae ((zbn _))) (zaj _) ?_
      intro m4 hb4 hg4
      have N4 : Ext wl m4 := zad N3 hg4 l3
      refine hK.out _ _ N4 (fun hHeld => ?_)
      clear hK K
      try simp only [Act.put, nrm]
      refine dne ?_
      go_wp2_with fail
      go_meet
      exact ⟨_, rfl, l3, hb4, N4⟩
     ·refine zao (by rfl) ?_
      refine zav (some 11) _ (ints .u8 (List.replicate 32 0)) rfl rfl (fun w => by rw [Tryz.zeroValue23]; rfl) ?_
      obtain ⟨m2, hm2⟩ : ∃ wNew, wNew = World.alloc m1 (.cells ((ints .u8 (List.replicate 32 0))).toArray 23) := ⟨_, rfl⟩
      rw [← hm2]
      have b2 : Ext m1 m2 := by rw [hm2]; exact Ext.alloc _ _
      obtain ⟨g2, hg2⟩ : ∃ gNew, gNew = (m1).heap.size := ⟨_, rfl⟩
      rw [← hg2]
      have z2 : Blk m2 g2 (ints .u8 (List.replicate 32 0)) 23 := by rw [hm2, hg2]; exact Blk.made _ _ _
      have l2 : (wl).heap.size ≤ g2 := by rw [hg2]; exact N1.size
      clear hm2 hg2
      have r1 := r1.below b2
      have N2 : Ext wl m2 := N1.trans b2
      refine hK.out _ _ N2 (fun hHeld => ?_)
      clear hK K
      try simp only [Act.put, nrm]
      refine rdy 4 rfl fun K hK => ?_
      go_simp
      refine (dig_two _ _ ls rb key (rb ++ (key ++ m)) _ (HVB.out.below (HE.out.trans N2)) (rowB2 r1 ((zcc (n := 32) HVr.out (by rw [List.length_map]; exact HRL.out) (by unfold maxLen; omega)).below N2) ((zcc (n := 32) H1.out (by rw [List.length_map]; exact HKL.out) (by unfold maxLen; omega)).below N2)) (by rw [HMM.out]) (by rw [List.length_append, List.length_append, HRL.out, HKL.out]; have := HML.out; omega) HCT.out (HGR.out.ext (HE.out.trans N2)) (HGT.out.ext (HE.out.trans N2))).mono ?_
      rintro e m3 ⟨rfl, b3⟩
      have r1 := r1.below b3
      have z2 := z2.below b3
      have N3 : Ext wl m3 := N2.trans b3
      refine hK.out _ _ N3 (fun hHeld => ?_)
      clear hK K
      try simp only [Act.put, nrm]
      refine rdy 6 rfl fun K hK => ?_
      refine zao (by rfl) ?_
      refine zal _ _ _ rfl g2 ((wideB (rb ++ (key ++ m))).map bval) rfl rfl _ _ z2 (by rw [List.length_map, (zbn _)]; rfl) (zae ((zbn _))) (zaj _) ?_
      intro m4 hb4 hg4
      have N4 : Ext wl m4 := zad N3 hg4 l2
      refine hK.out _ _ N4 (fun hHeld => ?_)
      clear hK K
      try simp only [Act.put, nrm]
      refine dne ?_
      go_wp2_with fail
      go_meet
      exact ⟨_, rfl, l2, hb4, N4⟩
    ·refine zao (by rfl) ?_
     refine zav (some 11) _ (ints .u8 (List.replicate 32 0)) rfl rfl (fun w => by rw [Tryz.zeroValue23]; rfl) ?_
     obtain ⟨m1, hm1⟩ : ∃ wNew, wNew = World.alloc wl.drew (.cells ((ints .u8 (List.replicate 32 0))).toArray 23) := ⟨_, rfl⟩
     rw [← hm1]
     have b1 : Ext wl.drew m1 := by rw [hm1]; exact Ext.alloc _ _
     obtain ⟨g1, hg1⟩ : ∃ gNew, gNew = (wl.drew).heap.size := ⟨_, rfl⟩
     rw [← hg1]
     have z1 : Blk m1 g1 (ints .u8 (List.replicate 32 0)) 23 := by rw [hm1, hg1]; exact Blk.made _ _ _
     have l1 : (wl).heap.size ≤ g1 := by rw [hg1]; exact B0.size
     clear hm1 hg1
     have N1 : Ext wl m1 := B0.trans b1
     refine hK.out _ _ N1 (fun hHeld => ?_)
     clear hK K
     try simp only [Act.put, nrm]
     refine rdy 3 rfl fun K hK => ?_
     refine zao (by rfl) ?_
     refine zbr (some 33) _ _ _ _ rfl rfl #[.slice (some ⟨pr, 0, none⟩) 32 32, .slice (some ⟨A, 0, none⟩) 32 32] iq (.slice none 0 0) Tryz.underlying35 HQ0.out HQ1.out (by rw [HQ2.out]; decide) (by rw [HQ2.out]; decide) (by rw [HQ2.out]; kernel_rfl) ?_
     obtain ⟨m2, hm2⟩ : ∃ wNew, wNew = World.alloc m1 (.cells #[.slice (some ⟨pr, 0, none⟩) 32 32, .slice (some ⟨A, 0, none⟩) 32 32] 26) := ⟨_, rfl⟩
     rw [← hm2]
     have b2 : Ext m1 m2 := by rw [hm2]; exact Ext.alloc _ _
     obtain ⟨g2, hg2⟩ : ∃ gNew, gNew = (m1).heap.size := ⟨_, rfl⟩
     rw [← hg2]
     have z1 := z1.below b2
     have r2 : Row1 m2 (.slice (some ⟨g2, 0, none⟩) 2 2) [.slice (some ⟨pr, 0, none⟩) 32 32, .slice (some ⟨A, 0, none⟩) 32 32] := by rw [hm2, hg2]; exact Row1.made _ _ _ _ _ _ rfl rfl rfl (by unfold maxLen; omega)
     clear hm2 hg2
     have N2 : Ext wl m2 := N1.trans b2
     refine hK.out _ _ N2 (fun hHeld => ?_)
     clear hK K
     try simp only [Act.put, nrm]
     refine rdy 4 rfl fun K hK => ?_
     go_simp
     refine (dig_two _ _ ls rb key (rb ++ (key ++ m)) _ (HVB.out.below (HE.out.trans N2)) (rowB2 r2 ((zcc (n := 32) HVr.out (by rw [List.length_map]; exact HRL.out) (by unfold maxLen; omega)).below N2) ((zcc (n := 32) H1.out (by rw [List.length_map]; exact HKL.out) (by unfold maxLen; omega)).below N2)) (by rw [HMM.out]) (by rw [List.length_append, List.length_append, HRL.out, HKL.out]; have := HML.out; omega) HCT.out (HGR.out.ext (HE.out.trans N2)) (HGT.out.ext (HE.out.trans N2))).mono ?_
     rintro e m3 ⟨rfl, b3⟩
     have r2 := r2.below b3
     have z1 := z1.below b3
     have N3 : Ext wl m3 := N2.trans b3
     refine hK.out _ _ N3 (fun hHeld => ?_)
     clear hK K
     try simp only [Act.put, nrm]
     refine rdy 6 rfl fun K hK => ?_
     refine zao (by rfl) ?_
     refine zal _ _ _ rfl g1 ((wideB (rb ++ (key ++ m))).map bval) rfl rfl _ _ z1 (by rw [List.length_map, (zbn _)]; rfl) (zae ((zbn _))) (zaj _) ?_
     intro m4 hb4 hg4
     have N4 : Ext wl m4 := zad N3 hg4 l1
     refine hK.out _ _ N4 (fun hHeld => ?_)
     clear hK K
     try simp only [Act.put, nrm]
     refine dne ?_
     go_wp2_with fail
     go_meet
     exact ⟨_, rfl, l1, hb4, N4⟩
   case rest =>
    obtain ⟨pq, rfl, hp0, hb0, hX⟩ := hcut
    have H1 := Lib.hid (zaa H1.out hX)
    have H2 := Lib.hid (zaa H2.out hX)
    have HVr := Lib.hid (zaa HVr.out hX)
    have HVs := Lib.hid (zaa HVs.out hX)
    have HVa := Lib.hid (zaa HVa.out hX)
    have HE := Lib.hid (HE.out.trans hX)
    have HPq := Lib.hid hp0
    clear hX hp0
    generalize wc = wq at *
    have HVq := Lib.hid hb0
    clear hb0
    obtain ⟨qb, hqb⟩ : ∃ k, k = wideB (rb ++ (key ++ m)) := ⟨_, rfl⟩
    rw [← hqb] at HVq
    have HNqb := Lib.hid hqb
    have HLqb : Hid (qb.length = 32) := Lib.hid (by rw [hqb]; exact zbn _)
    clear hqb
    have HLQ : Hid (leN qb < 2 ^ 255) := Lib.hid (by rw [HNqb.out]; exact wideB_lt _)
    go_wp2_with fail
    obtain ⟨vb, hvb⟩ : ∃ k, decide (encB (padd (pmul (leN sb) bP) (pmul (leN qb) (pneg P))) = rb) = k := ⟨_, rfl⟩
    have HVD := Lib.hid hvb
    clear hvb
    refine zbh (by kernel_rfl) (by kernel_rfl) ?_
    refine zai _ _ ps 0 (sb.map bval) _ (by rfl) rfl rfl (fun w hw => (zaa HVs.out hw).range) Tryz.underlying23 rfl (zae HSL.out) ?_
    simp only [Act.put, nrm]
    refine zah _ _ _ [] (.agg (ptF bP.es).toArray) (by rfl) rfl Tryz.call19 rfl (fun w hw => cbase_f w (HGC.out.ext (HE.out.trans hw))) ?_
    simp only [Act.put, nrm]
    refine zai _ _ pq 0 (qb.map bval) _ (by rfl) rfl rfl (fun w hw => (zaa HVq.out hw).range) Tryz.underlying23 rfl (zae HLqb.out) ?_
    simp only [Act.put, nrm]
    refine zai _ _ pa 0 (ptF P.es) _ (by rfl) rfl rfl (fun w hw => (zaa HVa.out hw).range) Tryz.underlying37 rfl (zaz _) ?_
    simp only [Act.put, nrm]
    refine zah _ _ _ [.agg (ptF P.es).toArray] (.agg (ptF P.es.neg).toArray) (by rfl) rfl Tryz.call20 rfl (fun w hw => cneg_f w P.es) ?_
    simp only [Act.put, nrm]
    refine zah _ _ _ [.agg (sb.map bval).toArray, .agg (ptF bP.es).toArray, .agg (qb.map bval).toArray, .agg (ptF P.es.neg).toArray] (.agg (ptF (trun bP.es P.es.neg (leN sb) (leN qb) 255)).toArray) (by rfl) rfl Tryz.call18 rfl (fun w hw => ctogether_f w sb qb bP.es P.es.neg HSL.out HLqb.out (HGC.out.ext (HE.out.trans hw))) ?_
    simp only [Act.put, nrm]
    refine zah _ _ _ [.agg (ptF (trun bP.es P.es.neg (leN sb) (leN qb) 255)).toArray] (.agg ((encB (padd (pmul (leN sb) bP) (pmul (leN qb) (pneg P)))).map bval).toArray) (by rfl) rfl Tryz.call17 rfl (fun w hw => (by have h := cencoded_f w (trun bP.es P.es.neg (leN sb) (leN qb) 255); rwa [enc_together HLS.out HLQ.out] at h)) ?_
    simp only [Act.put, nrm]
    refine zai _ _ pr 0 (rb.map bval) _ (by rfl) rfl rfl (fun w hw => (zaa HVr.out hw).range) Tryz.underlying23 rfl (zae HRL.out) ?_
    simp only [Act.put, nrm]
    refine det_eql .eql _ _ _ _ _ 32 _ _ _ vb (by rfl) rfl (Or.inl ⟨rfl, HVD.out⟩) Tryz.underlying23 Tryz.underlying5 zcl zcb zca rfl rfl (zbt _) HRL.out ?_
    simp only [Act.put, nrm]
    refine zbl _ (.bool vb) (by rfl) rfl rfl ?_
    simp only [Act.put, nrm]
    refine zaw (fun wz hwz => ?_)
    have HE := Lib.hid (HE.out.trans hwz)
    go_wp2_with fail
    go_ret
    refine ⟨?_, HE.out⟩
    rw [HMM.out, ← ver_dec HRL.out HPK.out HLB.out, ← HNqb.out, HVD.out]
    rfl
theorem CVer_num (key g : List UInt8) (v : Value) (ls : List (List UInt8)) (w : World) (hk : key.length = 32) (hg : g.length = 64) (hv : RowB w v ls) (hl : ls.flatten.length ≤ 1000000000000) (hc : ls.length ≤ 1000000) (hR : GlobRQ w) (hT : GlobT w) (hG : GlobC w) : Calls Tryz.prog 6 #[.agg (key.map bval).toArray, .agg (g.map bval).toArray, v] w fun e w' => e = .returned (.bool (verB key g ls.flatten)) ∧ Below w.heap.size w w' := by
 have h := cver_two key (g.take 32) (g.drop 32) v ls w hk (by rw [List.length_take, hg]; rfl) (by rw [List.length_drop, hg]) hv hl hc hR hT hG
 rwa [sgC_eq, List.take_append_drop] at h
theorem build_sgz (w : World) : (Instr.build 25 #[]).run Tryz.prog w = .ok (.agg ((List.replicate 64 (0 : UInt8)).map bval).toArray) w := by
 refine run_build w _ _ _ ?_
 kernel_rfl
def xB : List UInt8 := [120]
def yB2 : List UInt8 := [121]
theorem one_row (w : World) (l : List UInt8) (b c : Nat) (h : Row1 w (.slice (some ⟨b, 0, none⟩) l.length c) (l.map bval)) :
  RowB (w.alloc (.cells #[.slice (some ⟨b, 0, none⟩) l.length c] 26)) (.slice (some ⟨w.heap.size, 0, none⟩) 1 1) [l] :=
 rowB1 (Row1.made w #[.slice (some ⟨b, 0, none⟩) l.length c] 26 _ 1 [.slice (some ⟨b, 0, none⟩) l.length c] rfl rfl rfl (by unfold maxLen; omega)) (h.below (Ext.alloc w _))
set_option maxRecDepth 100000 in
set_option maxHeartbeats 4000000 in
theorem alive_any13 (w : World) (hR : GlobRQ w) (hT : GlobT w) (hG : GlobC w) : Calls Tryz.prog 5 #[] w fun e w' => e = .returned (.bool true) ∧ Below w.heap.size w w' := by
 have HGR := Lib.hid hR
 have HGT := Lib.hid hT
 have HGC := Lib.hid hG
 clear hR hT hG
 obtain ⟨zr, hzr⟩ : ∃ z, z = zer := ⟨_, rfl⟩
 have HBZ := Lib.hid build_zer
 rw [← hzr] at HBZ
 have HZL : Hid (zr.length = 32) := Lib.hid (by rw [hzr]; exact zdo)
 obtain ⟨sz, hsz⟩ : ∃ z, z = List.replicate 64 (0 : UInt8) := ⟨_, rfl⟩
 have HBS := Lib.hid build_sgz
 rw [← hsz] at HBS
 have HSL : Hid (sz.length = 64) := Lib.hid (by rw [hsz, List.length_replicate])
 have HSZ := Lib.hid hsz
 clear hzr hsz
 have kc := fun (w : World) (C : Array Value) (n c : Nat) => Lib.run_convert_bytes_const (P := Tryz.prog) w 26 5 C n c Tryz.underlying26 Tryz.underlying5
 go_enter Tryz.func5, Tryz.ntmps5
 go_wp2_with (refine zcg rfl 23 #[] rfl #[] (by simp) (.agg (zr.map bval).toArray) (HBZ.out _) ?_)
 refine (CPub_num zr w HZL.out HGR.out HGC.out).mono ?_
 rintro e w1 ⟨rfl, hb⟩
 have HE : Hid (Ext w w1) := Lib.hid hb
 clear hb
 have HPL := Lib.hid (edPub_length zr)
 obtain ⟨pb, hpb⟩ : ∃ p, p = edPub zr := ⟨_, rfl⟩
 rw [← hpb] at HPL ⊢
 have HPB := Lib.hid hpb
 clear hpb
 have HZ := Lib.hid (Blk.made w1 (ints .u8 (List.replicate 32 0)) 23)
 have HEA := Lib.hid (Ext.alloc w1 (.cells (ints .u8 (List.replicate 32 0)).toArray 23))
 have HL : Hid ((pb.map bval).length = (ints .u8 (List.replicate 32 0)).length) := Lib.hid (by rw [List.length_map, HPL.out]; rfl)
 go_upto_region 2 with (refine zac rfl _ _ _ rfl w1.heap.size (pb.map bval) rfl rfl _ _ HZ.out HL.out (zae HPL.out) (zaj _) ?_; intro w7 hb hg)
 have HX := Lib.hid (zad HEA.out hg (Nat.le_refl _))
 generalize w1.heap.size = pp at *
 have HE := Lib.hid (HE.out.trans HX.out)
 have HP := Lib.hid hb
 clear hb hg HX HZ HEA HL
 generalize w7 = w2 at *
 go_wp2_with (refine zcg rfl 23 #[] rfl #[] (by simp) (.agg (zr.map bval).toArray) (HBZ.out _) ?_)
 have HS1 : Hid ((w2.alloc (.cells (xB.map bval).toArray 5 (1, 2))).heap.size = w2.heap.size + 1) := Lib.hid (by simp)
 have HE1 := Lib.hid (Ext.alloc w2 (.cells (xB.map bval).toArray 5 (1, 2)))
 have HR1 : Hid (Row1 (w2.alloc (.cells (xB.map bval).toArray 5 (1, 2))) (.slice (some ⟨w2.heap.size, 0, none⟩) 1 1) (xB.map bval)) := Lib.hid (Row1.made_mark w2 _ _ _ _ _ _ rfl rfl rfl (by unfold maxLen; omega))
 change Calls _ _ _ ((w2.alloc (.cells (xB.map bval).toArray 5 (1, 2))).alloc (.cells #[.slice (some ⟨w2.heap.size, 0, none⟩) 1 1] 26)) _
 generalize w2.alloc (.cells (xB.map bval).toArray 5 (1, 2)) = w3 at *
 rw [← HS1.out]
 have HP := Lib.hid (zaa HP.out HE1.out)
 have HE := Lib.hid (HE.out.trans HE1.out)
 have HEB := Lib.hid (Ext.alloc w3 (.cells #[.slice (some ⟨w2.heap.size, 0, none⟩) 1 1] 26))
 have HRB := Lib.hid (rowB1 (Row1.made w3 #[.slice (some ⟨w2.heap.size, 0, none⟩) 1 1] 26 _ 1 [.slice (some ⟨w2.heap.size, 0, none⟩) 1 1] rfl rfl rfl (by unfold maxLen; omega)) (HR1.out.below HEB.out))
 refine (CSign_num zr _ [xB] _ HZL.out HRB.out (by decide) (by decide) (HGR.out.ext (HE.out.trans HEB.out)) (HGT.out.ext (HE.out.trans HEB.out)) (HGC.out.ext (HE.out.trans HEB.out))).mono ?_
 rintro e w4 ⟨rfl, hb⟩
 have HP := Lib.hid (zaa HP.out (HEB.out.trans hb))
 have HE := Lib.hid (HE.out.trans (HEB.out.trans hb))
 clear hb HEB HRB HR1 HE1 HS1
 rw [show [xB].flatten = xB from rfl]
 have HGL := Lib.hid (edSign_length zr xB)
 have HVS := Lib.hid (ver_sign zr xB)
 rw [← HPB.out] at HVS
 obtain ⟨gb, hgb⟩ : ∃ p, p = edSign zr xB := ⟨_, rfl⟩
 rw [← hgb] at HGL HVS ⊢
 clear hgb
 have HZ := Lib.hid (Blk.made w4 (ints .u8 (List.replicate 64 0)) 25)
 have HEA := Lib.hid (Ext.alloc w4 (.cells (ints .u8 (List.replicate 64 0)).toArray 25))
 have HL : Hid ((gb.map bval).length = (ints .u8 (List.replicate 64 0)).length) := Lib.hid (by rw [List.length_map, HGL.out]; rfl)
 go_upto_region 3 with (refine zac rfl _ _ _ rfl w4.heap.size (gb.map bval) rfl rfl _ _ HZ.out HL.out (zce HGL.out) (zaj _) ?_; intro w7 hb hg)
 have HX := Lib.hid (zad HEA.out hg (Nat.le_refl _))
 generalize w4.heap.size = pg at *
 have HP := Lib.hid (zaa HP.out HX.out)
 have HE := Lib.hid (HE.out.trans HX.out)
 have HQ := Lib.hid hb
 clear hb hg HX HZ HEA HL
 generalize w7 = w5 at *
 go_wp2_with (first | (refine wpList_load_mid rfl _ _ rfl pp 0 rfl _ _ HP.out.range Tryz.underlying23 rfl (zae HPL.out) ?_) | (refine wpList_load_mid rfl _ _ rfl pg 0 rfl _ _ HQ.out.range Tryz.underlying25 rfl (zce HGL.out) ?_))
 have HS2 : Hid ((w5.alloc (.cells (xB.map bval).toArray 5 (1, 2))).heap.size = w5.heap.size + 1) := Lib.hid (by simp)
 have HE2 := Lib.hid (Ext.alloc w5 (.cells (xB.map bval).toArray 5 (1, 2)))
 have HR2 : Hid (Row1 (w5.alloc (.cells (xB.map bval).toArray 5 (1, 2))) (.slice (some ⟨w5.heap.size, 0, none⟩) 1 1) (xB.map bval)) := Lib.hid (Row1.made_mark w5 _ _ _ _ _ _ rfl rfl rfl (by unfold maxLen; omega))
 change Calls _ _ _ ((w5.alloc (.cells (xB.map bval).toArray 5 (1, 2))).alloc (.cells #[.slice (some ⟨w5.heap.size, 0, none⟩) 1 1] 26)) _
 generalize w5.alloc (.cells (xB.map bval).toArray 5 (1, 2)) = w6 at *
 rw [← HS2.out]
 have HP := Lib.hid (zaa HP.out HE2.out)
 have HE := Lib.hid (HE.out.trans HE2.out)
 have HEB := Lib.hid (Ext.alloc w6 (.cells #[.slice (some ⟨w5.heap.size, 0, none⟩) 1 1] 26))
 have HRB := Lib.hid (rowB1 (Row1.made w6 #[.slice (some ⟨w5.heap.size, 0, none⟩) 1 1] 26 _ 1 [.slice (some ⟨w5.heap.size, 0, none⟩) 1 1] rfl rfl rfl (by unfold maxLen; omega)) (HR2.out.below HEB.out))
 refine (CVer_num pb gb _ [xB] _ HPL.out HGL.out HRB.out (by decide) (by decide) (HGR.out.ext (HE.out.trans HEB.out)) (HGT.out.ext (HE.out.trans HEB.out)) (HGC.out.ext (HE.out.trans HEB.out))).mono ?_
 rintro e w8 ⟨rfl, hb⟩
 rw [show [xB].flatten = xB from rfl, verB_true HVS.out]
 have HP := Lib.hid (zaa HP.out (HEB.out.trans hb))
 have HE := Lib.hid (HE.out.trans (HEB.out.trans hb))
 clear hb HEB HRB HR2 HE2 HS2 HQ
 go_wp2_with (first | (refine wpList_load_mid rfl _ _ rfl pp 0 rfl _ _ HP.out.range Tryz.underlying23 rfl (zae HPL.out) ?_) | (refine zcg rfl 25 #[] rfl #[] (by simp) (.agg (sz.map bval).toArray) (HBS.out _) ?_))
 have HS3 : Hid ((w8.alloc (.cells (yB2.map bval).toArray 5 (1, 2))).heap.size = w8.heap.size + 1) := Lib.hid (by simp)
 have HE3 := Lib.hid (Ext.alloc w8 (.cells (yB2.map bval).toArray 5 (1, 2)))
 have HR3 : Hid (Row1 (w8.alloc (.cells (yB2.map bval).toArray 5 (1, 2))) (.slice (some ⟨w8.heap.size, 0, none⟩) 1 1) (yB2.map bval)) := Lib.hid (Row1.made_mark w8 _ _ _ _ _ _ rfl rfl rfl (by unfold maxLen; omega))
 change Calls _ _ _ ((w8.alloc (.cells (yB2.map bval).toArray 5 (1, 2))).alloc (.cells #[.slice (some ⟨w8.heap.size, 0, none⟩) 1 1] 26)) _
 generalize w8.alloc (.cells (yB2.map bval).toArray 5 (1, 2)) = w9 at *
 rw [← HS3.out]
 have HP := Lib.hid (zaa HP.out HE3.out)
 have HE := Lib.hid (HE.out.trans HE3.out)
 have HEB := Lib.hid (Ext.alloc w9 (.cells #[.slice (some ⟨w8.heap.size, 0, none⟩) 1 1] 26))
 have HRB := Lib.hid (rowB1 (Row1.made w9 #[.slice (some ⟨w8.heap.size, 0, none⟩) 1 1] 26 _ 1 [.slice (some ⟨w8.heap.size, 0, none⟩) 1 1] rfl rfl rfl (by unfold maxLen; omega)) (HR3.out.below HEB.out))
 refine (CVer_num pb sz _ [yB2] _ HPL.out HSL.out HRB.out (by decide) (by decide) (HGR.out.ext (HE.out.trans HEB.out)) (HGT.out.ext (HE.out.trans HEB.out)) (HGC.out.ext (HE.out.trans HEB.out))).mono ?_
 rintro e w10 ⟨rfl, hb⟩
 rw [zeo (by rw [HPB.out, HSZ.out]; exact no_sig _ _)]
 have HP := Lib.hid (zaa HP.out (HEB.out.trans hb))
 have HE := Lib.hid (HE.out.trans (HEB.out.trans hb))
 clear hb HEB HRB HR3 HE3 HS3
 go_wp2_with (refine zcu (by rfl) _ _ rfl pp rfl _ _ _ _ HP.out Tryz.underlying23 (zae HPL.out) ?_)
 refine (CMay_num pb _ HPL.out (HGC.out.ext HE.out)).mono ?_
 rintro e w11 ⟨rfl, hb⟩
 rw [zez (by rw [HPB.out]; exact may_pub _)]
 have HE := Lib.hid (HE.out.trans hb)
 clear hb
 go_wp2_with fail
 go_ret
 exact ⟨rfl, HE.out⟩
theorem cver_rows (key g m : List UInt8) (v : Value) (ls : List (List UInt8)) (w : World) (hk : key.length = 32) (hg : g.length = 64) (hv : RowB w v ls) (hf : ls.flatten = m) (hl : m.length ≤ 1000000000000) (hc : ls.length ≤ 1000000) (hR : GlobRQ w) (hT : GlobT w) (hG : GlobC w) :
  Calls Tryz.prog 6 #[.agg (key.map bval).toArray, .agg (g.map bval).toArray, v] w fun e w' => e = .returned (.bool (verB key g m)) ∧ Below w.heap.size w w' := by
 subst hf
 exact CVer_num key g v ls w hk hg hv hl hc hR hT hG
end Go.Proofs.YtckggbkoabmjiaaGreatDoor
