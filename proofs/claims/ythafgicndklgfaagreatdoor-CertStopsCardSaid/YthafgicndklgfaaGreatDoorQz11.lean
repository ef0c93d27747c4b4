/- Texts that belong together, one behind the other. -/
import Derived.Test.YthafgicndklgfaaGreatDoorQz10
namespace Go.Proofs.YthafgicndklgfaaGreatDoor
set_option linter.unusedVariables false
set_option maxRecDepth 100000
set_option maxHeartbeats 32000000
set_option linter.unusedSimpArgs false
open Go.RowKit
theorem base_nb : nbF (4 * fi 5) = encB bP := by
 have h5 : (5 : Fp) ≠ 0 := by decide +kernel
 have hi := f_inv h5
 have hy : bP.y * 5 = 4 := by decide +kernel
 have e : (4 : Fp) * fi 5 = bP.y := by
  rw [← hy, Fin.mul_assoc, hi, Fin.mul_one]
 have hx : bP.x.val % 2 = 0 := by decide +kernel
 rw [e]
 unfold encB enc
 rw [hx, Nat.mul_zero, Nat.add_zero]
 rfl
theorem cdec_base (w : World) (f : Fp) (hf : f = 4 * fi 5) (hG : GlobC w) : Calls Tryz.prog 49 #[.agg ((nbF f).map bval).toArray] w fun e w' => e = .returned (.tuple #[.agg (ptF bP.es).toArray, .bool true]) ∧ Below w.heap.size w w' := by
 subst hf
 have h := cdecoded_f w (nbF (4 * fi 5)) (zag _) hG
 rw [base_nb] at h ⊢
 rw [decE_enc, mayB_true ⟨bP, rfl⟩] at h
 exact h
theorem cbase_f (w : World) (hG : GlobC w) : Calls Tryz.prog 53 #[] w fun e w' => e = .returned (.agg (ptF bP.es).toArray) ∧ Below w.heap.size w w' := by
 have HGC := jh hG
 clear hG
 have HB := jh (zfu w zq 85)
 go_enter Tryz.func53, Tryz.ntmps53
 go_upto_region 1 with (fail)
 obtain ⟨H1, HE⟩ := HB.out
 change Code.wp _ _ _ _ (World.alloc w (.cells zq.toArray 85))
 generalize (World.alloc w (.cells zq.toArray 85)) = wa at *
 obtain ⟨A, hA⟩ : ∃ A, A = w.heap.size := ⟨_, rfl⟩
 have HAW : Hid (w.heap.size ≤ A) := jh (by omega)
 rw [← hA] at H1 ⊢
 have H1 := jh H1
 have HE : Hid (Ext w wa) := jh HE
 clear hA HB
 obtain ⟨f4, h4⟩ : ∃ f, f = (4 : Fp) := ⟨_, rfl⟩
 obtain ⟨f5, h5⟩ : ∃ f, f = (5 : Fp) := ⟨_, rfl⟩
 have HB4 := jh build_nb4
 have HB5 := jh build_nb5
 rw [← h4] at HB4
 rw [← h5] at HB5
 have HF4 := jh h4
 have HF5 := jh h5
 clear h4 h5
 go_wp2_with (first | (refine zaw rfl 23 #[(0, .const (.int .u8 4))] rfl #[(0, .int .u8 4)] (by simp [Act.eval]) (.agg ((nbF f4).map bval).toArray) (HB4.out _) ?_) | (refine zaw rfl 23 #[(0, .const (.int .u8 5))] rfl #[(0, .int .u8 5)] (by simp [Act.eval]) (.agg ((nbF f5).map bval).toArray) (HB5.out _) ?_))
 refine (finv_f _ (F32.nb f5)).mono ?_
 rintro e w5 ⟨rfl, hb⟩
 have H1 := jh (zaa H1.out hb)
 have HE := jh (HE.out.trans hb)
 clear hb
 go_wp2_with fail
 refine (zfg _ (F32.nb f4) (F32.nb (fi f5))).mono ?_
 rintro e w6 ⟨rfl, hb⟩
 have H1 := jh (zaa H1.out hb)
 have HE := jh (HE.out.trans hb)
 clear hb
 go_wp2_with fail
 refine (cdec_base _ _ (by rw [HF4.out, HF5.out]) (HGC.out.ext HE.out)).mono ?_
 rintro e w8 ⟨rfl, hb⟩
 have H1 := jh (zaa H1.out hb)
 have HE := jh (HE.out.trans hb)
 clear hb
 obtain ⟨es, hes⟩ : ∃ k, k = bP.es := ⟨_, rfl⟩
 rw [← hes]
 have HES := jh hes
 clear hes
 have HZ := jh (Blk.made w8 zq 85)
 have HEA := jh (Ext.alloc w8 (.cells zq.toArray 85))
 have HL : Hid ((ptF es).length = zq.length) := jh ((zbd _).trans zq_length.symm)
 go_upto_region 2 with (refine zab rfl _ _ _ rfl w8.heap.size (ptF es) rfl rfl _ _ HZ.out HL.out (zbb _) (zcp _) ?_; intro w7 hb hg)
 have HX := jh (zad HEA.out hg (Nat.le_refl _))
 generalize w8.heap.size = pb at *
 have H1 := jh (zaa H1.out HX.out)
 have HE := jh (HE.out.trans HX.out)
 have HV := jh hb
 clear hb hg HX HZ HEA
 go_wp2_with (first | (refine wpList_load_mid rfl _ _ rfl pb 0 rfl _ _ HV.out.range Tryz.underlying85 rfl (zbb _) ?_) | (refine zab rfl _ _ _ rfl A (ptF es) rfl rfl _ _ H1.out HL.out (zbb _) (zcp _) ?_; intro w9 hb9 hg9))
 exact bodyPost_ret (zay (by rfl) _ A _ _ _ (by rfl) hb9 Tryz.underlying85 rfl (zbb _)) rfl ⟨by rw [HES.out], zad HE.out hg9 (by have := HAW.out; omega)⟩
theorem CMay_num (n : List UInt8) (w : World) (hn : n.length = 32) (hG : GlobC w) : Calls Tryz.prog 27 #[.agg (n.map bval).toArray] w fun e w' => e = .returned (.bool (mayB n)) ∧ Below w.heap.size w w' := by
 have HNL := jh hn
 clear hn
 have HGC := jh hG
 clear hG
 have HB := jh (zfu w (n.map bval) 23)
 go_enter Tryz.func27, Tryz.ntmps27
 go_upto_region 1 with (fail)
 obtain ⟨H1, HE⟩ := HB.out
 change Code.wp _ _ _ _ (World.alloc w (.cells (n.map bval).toArray 23))
 generalize (World.alloc w (.cells (n.map bval).toArray 23)) = wa at *
 obtain ⟨A, hA⟩ : ∃ A, A = w.heap.size := ⟨_, rfl⟩
 have HAW : Hid (w.heap.size ≤ A) := jh (by omega)
 rw [← hA] at H1 ⊢
 have H1 := jh H1
 have HE : Hid (Ext w wa) := jh HE
 clear hA HB
 go_wp2_with (first | (refine wpList_load_mid rfl _ _ rfl A 0 rfl _ _ (H1.out.range) Tryz.underlying23 rfl (zaf HNL.out) ?_))
 refine (cdecoded_f _ n HNL.out (HGC.out.ext HE.out)).mono ?_
 rintro e w8 ⟨rfl, hb⟩
 have H1 := jh (zaa H1.out hb)
 have HE := jh (HE.out.trans hb)
 clear hb
 obtain ⟨es, hes⟩ : ∃ k, k = decE n := ⟨_, rfl⟩
 rw [← hes]
 clear hes
 obtain ⟨mb, hmb⟩ : ∃ k, k = mayB n := ⟨_, rfl⟩
 rw [← hmb]
 have HMB := jh hmb
 clear hmb
 have HZ := jh (Blk.made w8 zq 85)
 have HEA := jh (Ext.alloc w8 (.cells zq.toArray 85))
 have HL : Hid ((ptF es).length = zq.length) := jh ((zbd _).trans zq_length.symm)
 go_upto_region 2 with (refine zab rfl _ _ _ rfl w8.heap.size (ptF es) rfl rfl _ _ HZ.out HL.out (zbb _) (zcp _) ?_; intro w7 hb hg)
 have HX := jh (zad HEA.out hg (Nat.le_refl _))
 have HE := jh (HE.out.trans HX.out)
 clear hb hg HX HZ HEA HL
 go_wp2_with fail
 go_ret
 exact ⟨by rw [HMB.out]; rfl, HE.out⟩
theorem u8_shl7_int (b : UInt8) : (b.toNat : Int) * (128 : Int) % (256 : Int) = ((b <<< 7).toNat : Int) := by
 have hh : ∀ n : Fin 256, ((UInt8.ofNat n.val).toNat : Int) * (128 : Int) % (256 : Int) = (((UInt8.ofNat n.val) <<< 7).toNat : Int) := by decide +kernel
 have := hh ⟨b.toNat, b.toNat_lt⟩
 simpa using this
theorem cencoded_f (w : World) (s : ES) : Calls Tryz.prog 51 #[.agg (ptF s).toArray] w fun e w' => e = .returned (.agg ((encS s).map bval).toArray) ∧ Below w.heap.size w w' := by
 have HB := jh (boxes2 w (ptF s) (ints .u8 (List.replicate 32 0)) 85 23)
 go_enter Tryz.func51, Tryz.ntmps51
 go_upto_region 1 with (fail)
 obtain ⟨H1, H2, HE⟩ := HB.out
 change Code.wp _ _ _ _ (World.alloc (World.alloc w (.cells (ptF s).toArray 85)) (.cells (ints .u8 (List.replicate 32 0)).toArray 23))
 generalize (World.alloc (World.alloc w (.cells (ptF s).toArray 85)) (.cells (ints .u8 (List.replicate 32 0)).toArray 23)) = wa at *
 obtain ⟨A, hA⟩ : ∃ A, A = w.heap.size := ⟨_, rfl⟩
 have HAW : Hid (w.heap.size ≤ A) := jh (by omega)
 rw [← hA] at H1 H2 ⊢
 have H1 := jh H1
 have H2 := jh H2
 have HE : Hid (Ext w wa) := jh HE
 clear hA HB
 obtain ⟨fz, hfz⟩ : ∃ k, k = fi s.z := ⟨_, rfl⟩
 have HFZ := jh hfz
 go_wp2_with (first | (refine wpList_load_mid rfl _ _ rfl A 64 rfl _ _ (ptF_z (H1.out.range) rfl) Tryz.underlying23 rfl (zaf (zag _)) ?_))
 refine (finv_f _ (F32.nb s.z)).mono ?_
 rintro e w5 ⟨rfl, hb⟩
 have H1 := jh (zaa H1.out hb)
 have H2 := jh (zaa H2.out hb)
 have HE := jh (HE.out.trans hb)
 rw [← hfz]
 clear hb hfz
 have HZ := jh (Blk.made w5 (ints .u8 (List.replicate 32 0)) 23)
 have HEA := jh (Ext.alloc w5 (.cells (ints .u8 (List.replicate 32 0)).toArray 23))
 have HL : Hid (((nbF fz).map bval).length = (ints .u8 (List.replicate 32 0)).length) := jh (by rw [List.length_map, zag]; rfl)
 go_upto_region 2 with (refine zab rfl _ _ _ rfl w5.heap.size ((nbF fz).map bval) rfl rfl _ _ HZ.out HL.out (zaf (zag _)) (zaj _) ?_; intro w7 hb hg)
 have HX := jh (zad HEA.out hg (Nat.le_refl _))
 obtain ⟨pi, hT⟩ : ∃ T, T = w5.heap.size := ⟨_, rfl⟩
 rw [← hT] at hb ⊢
 clear hT
 have H1 := jh (zaa H1.out HX.out)
 have H2 := jh (zaa H2.out HX.out)
 have HE := jh (HE.out.trans HX.out)
 have HVi := jh hb
 clear hb hg HX HZ HEA HL
 generalize w7 = wi at *
 go_wp2_with fail
 have HLA := jh H2.out.lt
 refine zal 8 4 10 rfl (by kernel_rfl) (by kernel_rfl) (fun d v c a w h => by cases d <;> exact h) (by kernel_rfl) ?_
 refine zbo _ _ A _ 0 0 (by rfl) rfl rfl (fun w => by go_simp) ?_
 simp only [Act.put, nrm]
 refine zai _ _ A 0 ((nbF s.x).map bval) _ (by rfl) rfl rfl (fun w hw => ptF_x ((zaa H1.out hw).range)) Tryz.underlying23 rfl (zaf (zag _)) ?_
 simp only [Act.put, nrm]
 refine zai _ _ pi 0 ((nbF fz).map bval) _ (by rfl) rfl rfl (fun w hw => (zaa HVi.out hw).range) Tryz.underlying23 rfl (zaf (zag _)) ?_
 simp only [Act.put, nrm]
 refine zah _ _ _ [.agg ((nbF s.x).map bval).toArray, .agg ((nbF fz).map bval).toArray] (.agg ((nbF (s.x * fz)).map bval).toArray) (by rfl) rfl Tryz.call83 rfl (fun w hw => zfg w (F32.nb _) (F32.nb _)) ?_
 simp only [Act.put, nrm]
 refine zbo _ _ A _ 0 32 (by rfl) rfl rfl (fun w => by go_simp) ?_
 simp only [Act.put, nrm]
 refine zai _ _ A 32 ((nbF s.y).map bval) _ (by rfl) rfl rfl (fun w hw => ptF_y ((zaa H1.out hw).range) rfl) Tryz.underlying23 rfl (zaf (zag _)) ?_
 simp only [Act.put, nrm]
 refine zai _ _ pi 0 ((nbF fz).map bval) _ (by rfl) rfl rfl (fun w hw => (zaa HVi.out hw).range) Tryz.underlying23 rfl (zaf (zag _)) ?_
 simp only [Act.put, nrm]
 refine zah _ _ _ [.agg ((nbF s.y).map bval).toArray, .agg ((nbF fz).map bval).toArray] (.agg ((nbF (s.y * fz)).map bval).toArray) (by rfl) rfl Tryz.call83 rfl (fun w hw => zfg w (F32.nb _) (F32.nb _)) ?_
 simp only [Act.put, nrm]
 refine zba (end_var2 (k := 8) 23 4 5 (.tmp 12) (.tmp 16) (ints .u8 (List.replicate 32 0)) ((nbF (s.x * fz)).map bval) ((nbF (s.y * fz)).map bval) rfl rfl rfl rfl (by kernel_rfl) (by kernel_rfl) (by kernel_rfl) (by kernel_rfl) (by kernel_rfl) (by kernel_rfl) (by kernel_rfl) (by kernel_rfl) (by kernel_rfl) (by kernel_rfl) rfl rfl rfl rfl rfl rfl rfl rfl (by decide) (fun w => by rw [Tryz.zeroValue23]; rfl) rfl rfl rfl rfl (by simp) (by simp) (fun p q => rfl) (fun p q => rfl) (by rw [List.length_map, zag]; rfl) (by rw [List.length_map, zag]; rfl) (zaf (zag _)) (zaf (zag _)) (zaj _) (zaj _) (fun px py wy hpq hp1 hp2 hb1 hb2 he => ?_))
 try simp only [Act.put, nrm]
 have H1 := jh (zaa H1.out he)
 have H2 := jh (zaa H2.out he)
 have HVi := jh (zaa HVi.out he)
 have HE := jh (HE.out.trans he)
 have HPQ := jh hpq
 have HPx := jh hp1
 have HPy := jh hp2
 clear he hpq hp1 hp2
 obtain ⟨vx, hq⟩ : ∃ kk, kk = (s.x * fz) := ⟨_, rfl⟩
 rw [← hq] at hb1
 have HQx := jh hq
 clear hq
 have HVx := jh hb1
 obtain ⟨vy, hq⟩ : ∃ kk, kk = (s.y * fz) := ⟨_, rfl⟩
 rw [← hq] at hb2
 have HQy := jh hq
 clear hq
 have HVy := jh hb2
 clear hb1 hb2
 have HLT : Hid (A + 1 < py) := jh (Nat.lt_of_lt_of_le HLA.out HPy.out)
 have hqe : encS s = (nbF vy).set 31 ((nbF vy).getD 31 0 ||| ((nbF vx).getD 0 0 <<< 7)) := by rw [HQx.out, HQy.out, HFZ.out]; rfl
 have HQE := jh hqe
 have HEL := jh (encS_length s)
 obtain ⟨en, hen⟩ : ∃ k, k = encS s := ⟨_, rfl⟩
 rw [← hen] at hqe HEL
 have HEN := jh hen
 have c0 := HVx.out.cell 0
 rw [zbu (by rw [zag]; omega)] at c0
 have c1 := HVy.out.cell 31
 rw [zbu (by rw [zag]; omega)] at c1
 have f1 := HVy.out.free 31
 have hsh := u8_shl7_int ((nbF vx).getD 0 0)
 have hor := u8_or ((nbF vy).getD 31 0) ((nbF vx).getD 0 0 <<< 7)
 have HX1 : Hid (((nbF vy).map bval).set 31 (.int .u8 ((((nbF vy).getD 31 0 ||| ((nbF vx).getD 0 0 <<< 7)).toNat : Nat) : Int)) = en.map bval) := jh (by rw [u8_set, hqe])
 clear hqe hen
 generalize ((((nbF vy).getD 31 0 ||| ((nbF vx).getD 0 0 <<< 7)).toNat : Nat) : Int) = q3 at *
 generalize ((((nbF vx).getD 0 0 <<< 7).toNat : Nat) : Int) = q2 at *
 generalize (((nbF vx).getD 0 0).toNat : Int) = q0 at *
 generalize (((nbF vy).getD 31 0).toNat : Int) = q1 at *
 go_upto_region 4 with (fail)
 try rw [show (q0 * 128 % 256 : Int) = q2 from hsh]
 try rw [hor]
 have HM := jh (HVy.out.set 31 (.int .u8 q3))
 rw [HX1.out] at HM
 have HR := jh (H2.out.far (a := ⟨py, 31, none⟩) (by have h0 := HPy.out; have h1 := H2.out.lt; simp; exact fun e => by have := HLT.out; omega) (.int .u8 q3))
 have HE := jh (Below.setCell HE.out (p := ⟨py, 31, none⟩) (by have := HLT.out; have := HAW.out; simp; omega) (.int .u8 q3))
 generalize wy.setCell ⟨py, 31, none⟩ (.int .u8 q3) = wz at *
 have HE : Hid (Ext w wz) := jh HE.out
 clear c0 c1 f1 HX1 hsh hor
 have HL : Hid ((en.map bval).length = (ints .u8 (List.replicate 32 0)).length) := jh (by rw [List.length_map, HEL.out, zac]; rfl)
 go_wp2_with (first | (refine zae rfl _ _ rfl py rfl _ _ _ _ HM.out Tryz.underlying23 (zaf HEL.out) ?_) | (refine zab rfl _ _ _ rfl (A + 1) (en.map bval) rfl rfl _ _ HR.out HL.out (zaf HEL.out) (zaj _) ?_; intro w9 hb9 hg9))
 refine bodyPost_ret (zbn rfl _ (A + 1) _ _ _ _ rfl hb9 Tryz.underlying23 (zaf HEL.out)) rfl ?_
 exact ⟨by rw [HEN.out], zad HE.out hg9 (by have := HAW.out; omega)⟩
theorem cbit_any (n : List UInt8) (i : Nat) (w : World) (hn : n.length = 32) (hi : i < 256) : Calls Tryz.prog 95 #[.agg (n.map bval).toArray, .int .i64 (i : Int)] w fun e w' => e = .returned (.int .u8 (((leN n).testBit i).toNat : Nat)) ∧ Below w.heap.size w w' := by
 have HNL := jh hn
 have HB := jh (zfu w (n.map bval) 23)
 obtain ⟨q, hq⟩ : ∃ q, q = i / 8 := ⟨_, rfl⟩
 obtain ⟨r, hr⟩ : ∃ r, r = i % 8 := ⟨_, rfl⟩
 have q1 : (i : Int) / 8 = (q : Int) := by omega
 have r1 : (i : Int) % 8 = (r : Int) := by omega
 have r2 : (i : Int).tmod 8 = (r : Int) := by rw [Int.tmod_eq_emod_of_nonneg (by omega)]; exact r1
 have q2 : (i : Int).tdiv 8 = (q : Int) := by rw [Int.tdiv_eq_ediv_of_nonneg (by omega)]; exact q1
 have q3 : (q : Int) < 32 := by omega
 have r3 : (r : Int) < 8 := by omega
 have q0 : (0 : Int) ≤ (q : Int) := Int.natCast_nonneg _
 have r0 : (0 : Int) ≤ (r : Int) := Int.natCast_nonneg _
 have i0 : (0 : Int) ≤ (i : Int) := Int.natCast_nonneg _
 have HQ := jh hq
 have HRR := jh hr
 clear hn hq hr
 go_enter Tryz.func95, Tryz.ntmps95
 go_upto_region 1 with (fail)
 obtain ⟨H1, HE⟩ := HB.out
 change Code.wp _ _ _ _ (w.alloc (.cells (n.map bval).toArray 23))
 generalize w.alloc (.cells (n.map bval).toArray 23) = wa at *
 obtain ⟨A, hA⟩ : ∃ A, A = w.heap.size := ⟨_, rfl⟩
 rw [← hA] at H1 ⊢
 have H1 := jh H1
 have HE : Hid (Ext w wa) := jh HE
 clear hA HB
 have c0 := H1.out.cell q
 rw [zbu (by rw [HNL.out]; omega)] at c0
 generalize hbt : (n.getD q 0).toNat = bt at *
 have HBT := jh hbt
 clear hbt
 go_wp2_with fail
 go_ret
 refine ⟨?_, HE.out⟩
 have hb := leN_bit n i (by have := HNL.out; omega)
 rw [← HQ.out, HBT.out, ← HRR.out] at hb
 have hc : (bt : Int) / 2 ^ r = ((bt / 2 ^ r : Nat) : Int) := by
  rw [Int.natCast_ediv, Int.natCast_pow]
  rfl
 rw [hc, andU1, ← hb, Nat.testBit_eq_decide_div_mod_eq]
 have h2 : leN n / 2 ^ i % 2 < 2 := Nat.mod_lt _ (by omega)
 generalize leN n / 2 ^ i % 2 = z at *
 rcases (by omega : z = 0 ∨ z = 1) with rfl | rfl <;> rfl
theorem cbit_t (n : List UInt8) (i : Nat) (w : World) (b : Bool) (hn : n.length = 32) (hi : i < 256) (hb : (leN n).testBit i = b) : Calls Tryz.prog 95 #[.agg (n.map bval).toArray, .int .i64 (i : Int)] w fun e w' => e = .returned (.int .u8 ((b.toNat : Nat) : Int)) ∧ Below w.heap.size w w' := by
 have h := cbit_any n i w hn hi
 rwa [hb] at h
theorem ctimes_f (w : World) (n : List UInt8) (p : ES) (hn : n.length = 32) (hG : GlobC w) : Calls Tryz.prog 52 #[.agg (n.map bval).toArray, .agg (ptF p).toArray] w fun e w' => e = .returned (.agg (ptF (crun p (leN n) 255)).toArray) ∧ Below w.heap.size w w' := by
 have HNL := jh hn
 clear hn
 have HGC := jh hG
 clear hG
 have HB := jh (boxes3 w (n.map bval) (ptF p) zq 23 85 85)
 go_enter Tryz.func52, Tryz.ntmps52
 go_upto_region 1 with (fail)
 obtain ⟨H1, H2, H3, HE⟩ := HB.out
 change Code.wp _ _ _ _ (World.alloc (World.alloc (World.alloc w (.cells (n.map bval).toArray 23)) (.cells (ptF p).toArray 85)) (.cells zq.toArray 85))
 generalize (World.alloc (World.alloc (World.alloc w (.cells (n.map bval).toArray 23)) (.cells (ptF p).toArray 85)) (.cells zq.toArray 85)) = wa at *
 obtain ⟨A, hA⟩ : ∃ A, A = w.heap.size := ⟨_, rfl⟩
 have HAW : Hid (w.heap.size ≤ A) := jh (by omega)
 rw [← hA] at H1 H2 H3 ⊢
 have H1 := jh H1
 have H2 := jh H2
 have H3 := jh H3
 have HE : Hid (Ext w wa) := jh HE
 clear hA HB
 go_wp2_with fail
 refine (czero_f _).mono ?_
 rintro e w5 ⟨rfl, hb⟩
 have H1 := jh (zaa H1.out hb)
 have H2 := jh (zaa H2.out hb)
 have H3 := jh (zaa H3.out hb)
 have HE := jh (HE.out.trans hb)
 clear hb
 have HZ := jh (Blk.made w5 zq 85)
 have HEA := jh (Ext.alloc w5 (.cells zq.toArray 85))
 have HL : Hid ((ptF esZero).length = zq.length) := jh ((zbd _).trans zq_length.symm)
 have HLT := jh (H3.out.lt)
 go_upto_region 2 with (refine zab rfl _ _ _ rfl w5.heap.size (ptF esZero) rfl rfl _ _ HZ.out HL.out (zbb _) (zcp _) ?_; intro w7 hb hg)
 have HX := jh (zad HEA.out hg (Nat.le_refl _))
 obtain ⟨po, hT⟩ : ∃ T, T = w5.heap.size := ⟨_, rfl⟩
 rw [← hT] at hb HLT ⊢
 clear hT
 have H1 := jh (zaa H1.out HX.out)
 have H2 := jh (zaa H2.out HX.out)
 have H3 := jh (zaa H3.out HX.out)
 have HE := jh (HE.out.trans HX.out)
 have HVo := jh hb
 clear hb hg HX HZ HEA HL
 generalize w7 = wo at *
 go_wp2_with fail
 go_loopw [6] (fun i wr => ∃ k : Nat, k ≤ 255 ∧ i = .int .i64 (254 - (k : Int)) ∧ Blk wr po (ptF (crun p (leN n) k)) 85 ∧ Blk wr A (n.map bval) 23 ∧ Blk wr (A + 1) (ptF p) 85 ∧ Blk wr (A + 1 + 1) zq 85 ∧ Ext w wr) (fun i _ => (intOf i + 1).toNat)
 case atStart => exact ⟨0, by omega, rfl, HVo.out, H1.out, H2.out, H3.out, HE.out⟩
 case round =>
  clear HVo H1 H2 H3 HE
  obtain ⟨k, hk, rfl, q1, q2, q3, q4, q5⟩ := hrel
  have i0' : (0 : Int) ≤ (k : Int) := Int.natCast_nonneg _
  obtain ⟨s, hs⟩ : ∃ s, s = crun p (leN n) k := ⟨_, rfl⟩
  rw [← hs] at q1
  have HVo := jh q1
  have H1 := jh q2
  have H2 := jh q3
  have H3 := jh q4
  have HE := jh q5
  clear q1 q2 q3 q4 q5
  by_cases hlt : k < 255
  ·have i1 : (0 : Int) ≤ 254 - (k : Int) := by omega
   obtain ⟨m, hm⟩ : ∃ m, m = 254 - k := ⟨_, rfl⟩
   have hmi : 254 - (k : Int) = (m : Int) := by omega
   obtain ⟨t, ht⟩ : ∃ t, t = (leN n).testBit m := ⟨_, rfl⟩
   have HST : Hid (crun p (leN n) (k + 1) = ES.pk t s.dbl (s.dbl.sum p)) := jh (by rw [crun, ← hm, ← ht, ← hs])
   have HTT := jh ht.symm
   have HMI := jh hmi
   have hmk : m ≤ 254 := by omega
   have HMK := jh hmk
   have HTB : Hid (decide (((t.toNat : Nat) : Int) = 1) = t) := jh (by cases t <;> rfl)
   clear ht hm hmi hmk hs
   go_wp2_with (first | (refine wpList_load_mid rfl _ _ rfl po 0 rfl _ _ (HVo.out.range) Tryz.underlying85 rfl (zbb _) ?_))
   refine (ctwice_f _ _).mono ?_
   rintro e wb ⟨rfl, hb⟩
   have H1 := jh (zaa H1.out hb)
   have H2 := jh (zaa H2.out hb)
   have H3 := jh (zaa H3.out hb)
   have HVo := jh (zaa HVo.out hb)
   have HE := jh (HE.out.trans hb)
   clear hb
   obtain ⟨sd, hsd⟩ : ∃ sd, sd = s.dbl := ⟨_, rfl⟩
   rw [← hsd]
   have HSD := jh hsd
   clear hsd
   have HL : Hid ((ptF sd).length = (ptF s).length) := jh (by rw [zbd, zbd])
   go_upto_region 6 with (refine zab rfl _ _ _ rfl po (ptF sd) rfl rfl _ _ HVo.out HL.out (zbb _) (zcp _) ?_; intro wc hb2 hg2)
   have H1 := jh (H1.out.grown hg2 (by have := HLT.out; simp; omega))
   have H2 := jh (H2.out.grown hg2 (by have := HLT.out; simp; omega))
   have H3 := jh (H3.out.grown hg2 (by have := HLT.out; simp; omega))
   have HE := jh (zad HE.out hg2 (by have := HLT.out; have := HAW.out; omega))
   have HVo := jh hb2
   clear hb2 hg2 HL
   go_wp2_with fail
   refine zal 9 1 9 rfl (by kernel_rfl) (by kernel_rfl) (fun d v c a w h => by cases d <;> exact h) (by kernel_rfl) ?_
   refine zai _ _ po 0 (ptF sd) _ (by rfl) rfl rfl (fun w hw => (zaa HVo.out hw).range) Tryz.underlying85 rfl (zbb _) ?_
   simp only [Act.put, nrm]
   refine zai _ _ po 0 (ptF sd) _ (by rfl) rfl rfl (fun w hw => (zaa HVo.out hw).range) Tryz.underlying85 rfl (zbb _) ?_
   simp only [Act.put, nrm]
   refine zai _ _ (A + 1) 0 (ptF p) _ (by rfl) rfl rfl (fun w hw => (zaa H2.out hw).range) Tryz.underlying85 rfl (zbb _) ?_
   simp only [Act.put, nrm]
   refine zah _ _ _ [.agg (ptF sd).toArray, .agg (ptF p).toArray] (.agg (ptF (sd.sum p)).toArray) (by rfl) rfl Tryz.call94 rfl (fun w hw => csum_f w sd p (HGC.out.ext (HE.out.trans hw))) ?_
   simp only [Act.put, nrm]
   refine zai _ _ A 0 (n.map bval) _ (by rfl) rfl rfl (fun w hw => (zaa H1.out hw).range) Tryz.underlying23 rfl (zaf HNL.out) ?_
   simp only [Act.put, nrm]
   refine zbc _ (.int .i64 (m : Int)) (by rfl) rfl (by show Value.int .i64 (254 - (k : Int)) = _; rw [HMI.out]) ?_
   simp only [Act.put, nrm]
   refine zah _ _ _ [.agg (n.map bval).toArray, .int .i64 (m : Int)] (.int .u8 ((t.toNat : Nat) : Int)) (by rfl) rfl Tryz.call95 rfl (fun w hw => cbit_t n m w t HNL.out (by have := HMK.out; omega) HTT.out) ?_
   simp only [Act.put, nrm]
   refine det_eqi .u8 _ _ _ _ _ _ t (by rfl) rfl rfl rfl HTB.out ?_
   simp only [Act.put, nrm]
   refine zah _ _ _ [.agg (ptF sd).toArray, .agg (ptF (sd.sum p)).toArray, .bool t] (.agg (ptF (ES.pk t sd (sd.sum p))).toArray) (by rfl) rfl Tryz.call93 rfl (fun w hw => cpick_f w t sd (sd.sum p)) ?_
   simp only [Act.put, nrm]
   refine zba (zeq (k := 9) _ _ _ _ po (ptF (ES.pk t sd (sd.sum p))) (ptF sd) rfl (by kernel_rfl) (by kernel_rfl) (by kernel_rfl) rfl rfl rfl rfl HVo.out (by rw [zbd, zbd]) (zbb _) (zcp _) (fun w8 hb8 hg8 => ?_))
   simp only [Act.put]
   go_wp2_with fail
   go_roundw
   case rel =>
    refine ⟨k + 1, by omega, by go_num, by rw [HST.out, ← HSD.out]; exact hb8, H1.out.grown hg8 (by have := HLT.out; simp; omega), H2.out.grown hg8 (by have := HLT.out; simp; omega), H3.out.grown hg8 (by have := HLT.out; simp; omega), zad HE.out hg8 (by have := HLT.out; have := HAW.out; omega)⟩
   case measure => simp [intOf]; omega
  ·have hk' : k = 255 := by omega
   subst hk'
   have HS := jh hs
   clear hs
   have HL : Hid ((ptF s).length = zq.length) := jh ((zbd _).trans zq_length.symm)
   go_wp2_with (first | (refine wpList_load_mid rfl _ _ rfl po 0 rfl _ _ HVo.out.range Tryz.underlying85 rfl (zbb _) ?_) | (refine zab rfl _ _ _ rfl (A + 1 + 1) (ptF s) rfl rfl _ _ H3.out HL.out (zbb _) (zcp _) ?_; intro w9 hb9 hg9))
   exact bodyPost_ret (zay (by rfl) _ (A + 1 + 1) _ _ _ (by rfl) hb9 Tryz.underlying85 rfl (zbb _)) rfl ⟨by rw [HS.out], zad HE.out hg9 (by have := HAW.out; omega)⟩
section
section
variable {P : Program} {ops : Array Oper} {Q : Exit → Act → World → Prop} {md : Region.Mode} {t : Nat} {C : World → Prop} {D : Act → Prop}
theorem det_indexm {o : Oper} {rest : List Oper} {a : Act} (ty e : TypeId) (x y : Operand) (c n sz : Nat) (k : IntKind) (j q : Nat) (hw : Region.wanted o (yielded ops a.tmps) = true) (ho : o.op = .indexAddr ty x y) (hx : a.eval x = .pointer (some ⟨c, 0, none⟩)) (hy : a.eval y = .int k (j : Int))
  (hu : P.underlying ty = some (.array n e)) (hj : j < n) (hs : ∀ w, (sizeOf e).run P w = .ok sz w) (hq : j * sz = q)
  (next : wpDet P ops C D rest (a.put o.dst (.pointer (some ⟨c, q, none⟩)))) : wpDet P ops C D (o :: rest) a :=
 zbj _ hw (fun w _ => by
  subst hq
  have h1 : (0 : Int) ≤ (j : Int) ∧ (j : Int) < (n : Int) := by omega
  unfold execOp
  simp [ho, hx, hy, Instr.indexAt, asIntOf, run_underlying hu, Instr.sureAddr, h1, hs, Addr.add_mid, hj]) next
end
def z4 : List Value := ints .u8 (List.replicate 512 0)
theorem z4_length : z4.length = 512 := by
 unfold z4
 rw [zac, List.length_replicate]
def st4 (p q r : ES) : List Value := zq ++ (ptF p ++ (ptF q ++ ptF r))
theorem st4_length (p q r : ES) : (st4 p q r).length = 512 := by simp [st4, zbd, zq_length]
theorem st4_one (p q r : ES) : ∀ v ∈ st4 p q r, v.oneCell' = true := by
 intro v hv
 simp only [st4, List.mem_append] at hv
 rcases hv with h | h | h | h
 ·exact zao _ _ v h
 ·exact zcp _ v h
 ·exact zcp _ v h
 ·exact zcp _ v h
theorem Tryz.arr133 : (Tryz.prog.info? 133).map (·.size) = some 512 := by kernel_rfl
theorem st4_size (p q r : ES) : (Tryz.prog.info? 133).map (·.size) = some (st4 p q r).length := by rw [st4_length]; exact Tryz.arr133
theorem zero_st4 (w : World) : (zeroValue 133).run Tryz.prog w = .ok (.agg z4.toArray) w := by kernel_rfl
theorem size_cpt (w : World) : (sizeOf 85).run Tryz.prog w = .ok 128 w := by kernel_rfl
theorem st4_at1 {w : World} {c : Nat} {p q r : ES} (h : w.rangeAt c 0 (st4 p q r)) : w.rangeAt c 128 (ptF p) := rng_lo (rng_hi h zq_length rfl)
theorem st4_at2 {w : World} {c : Nat} {p q r : ES} (h : w.rangeAt c 0 (st4 p q r)) : w.rangeAt c 256 (ptF q) := rng_lo (rng_hi (rng_hi h zq_length rfl) (zbd _) rfl)
theorem st4_at3 {w : World} {c : Nat} {p q r : ES} (h : w.rangeAt c 0 (st4 p q r)) : w.rangeAt c 384 (ptF r) := rng_hi (rng_hi (rng_hi h zq_length rfl) (zbd _) rfl) (zbd _) rfl
theorem z4_parts : z4 = zq ++ (zq ++ (zq ++ zq)) := by
 unfold z4 zq ints
 rw [← List.map_append, ← List.map_append, ← List.map_append, List.replicate_append_replicate, List.replicate_append_replicate, List.replicate_append_replicate]
theorem fill_st4 {place : Nat → Option (Nat × Nat)} (p1 : place 1 = some (128, 128)) (p2 : place 2 = some (256, 128)) (p3 : place 3 = some (384, 128)) (p q r : ES) :
  Instr.fill place z4.toArray [(1, .agg (ptF p).toArray), (2, .agg (ptF q).toArray), (3, .agg (ptF r).toArray)] = some (st4 p q r).toArray := by
 rw [z4_parts, zfo (off := 128) (n := 128) p1 zq_length zq_length (zbd p)]
 rw [show zq ++ (ptF p ++ (zq ++ zq)) = (zq ++ ptF p) ++ (zq ++ zq) by simp, zfo (off := 256) (n := 128) p2 (by simp [zq_length, zbd]) zq_length (zbd q)]
 rw [show (zq ++ ptF p) ++ (ptF q ++ zq) = (zq ++ ptF p ++ ptF q) ++ (zq ++ []) by simp, zfo (off := 384) (n := 128) p3 (by simp [zq_length, zbd]) zq_length (zbd r)]
 rw [Instr.fill]
 simp [st4]
theorem build_st4 (p q r : ES) (w : World) : (Instr.build 133 #[(1, .agg (ptF p).toArray), (2, .agg (ptF q).toArray), (3, .agg (ptF r).toArray)]).run Tryz.prog w = .ok (.agg (st4 p q r).toArray) w := by
 refine run_build w _ _ _ ?_
 refine Eq.trans ?_ (fill_st4 (place := fun i => (#[(0, 128), (128, 128), (256, 128), (384, 128)] : Array (Nat × Nat))[i]?) rfl rfl rfl p q r)
 kernel_rfl
theorem ctogether_f (w : World) (m n : List UInt8) (p q : ES) (hm : m.length = 32) (hn : n.length = 32) (hG : GlobC w) : Calls Tryz.prog 63 #[.agg (m.map bval).toArray, .agg (ptF p).toArray, .agg (n.map bval).toArray, .agg (ptF q).toArray] w fun e w' => e = .returned (.agg (ptF (trun p q (leN m) (leN n) 255)).toArray) ∧ Below w.heap.size w w' := by
 have HML := jh hm
 have HNL := jh hn
 clear hm hn
 have HGC := jh hG
 clear hG
 have HB := jh (boxes5 w (m.map bval) (ptF p) (n.map bval) (ptF q) zq 23 85 23 85 85)
 go_enter Tryz.func63, Tryz.ntmps63
 go_upto_region 1 with (fail)
 obtain ⟨H1, H2, H3, H4, H5, HE⟩ := HB.out
 change Code.wp _ _ _ _ (World.alloc (World.alloc (World.alloc (World.alloc (World.alloc w (.cells (m.map bval).toArray 23)) (.cells (ptF p).toArray 85)) (.cells (n.map bval).toArray 23)) (.cells (ptF q).toArray 85)) (.cells zq.toArray 85))
 generalize (World.alloc (World.alloc (World.alloc (World.alloc (World.alloc w (.cells (m.map bval).toArray 23)) (.cells (ptF p).toArray 85)) (.cells (n.map bval).toArray 23)) (.cells (ptF q).toArray 85)) (.cells zq.toArray 85)) = wa at *
 obtain ⟨A, hA⟩ : ∃ A, A = w.heap.size := ⟨_, rfl⟩
 have HAW : Hid (w.heap.size ≤ A) := jh (by omega)
 rw [← hA] at H1 H2 H3 H4 H5 ⊢
 have H1 := jh H1
 have H2 := jh H2
 have H3 := jh H3
 have H4 := jh H4
 have H5 := jh H5
 have HE : Hid (Ext w wa) := jh HE
 clear hA HB
 go_wp2_with fail
 refine (czero_f _).mono ?_
 rintro e w5 ⟨rfl, hb⟩
 have H1 := jh (zaa H1.out hb)
 have H2 := jh (zaa H2.out hb)
 have H3 := jh (zaa H3.out hb)
 have H4 := jh (zaa H4.out hb)
 have H5 := jh (zaa H5.out hb)
 have HE := jh (HE.out.trans hb)
 clear hb
 have HZ := jh (Blk.made w5 zq 85)
 have HEA := jh (Ext.alloc w5 (.cells zq.toArray 85))
 have HL : Hid ((ptF esZero).length = zq.length) := jh ((zbd _).trans zq_length.symm)
 have HLT := jh (H5.out.lt)
 go_upto_region 2 with (refine zab rfl _ _ _ rfl w5.heap.size (ptF esZero) rfl rfl _ _ HZ.out HL.out (zbb _) (zcp _) ?_; intro w7 hb hg)
 have HX := jh (zad HEA.out hg (Nat.le_refl _))
 obtain ⟨po, hT⟩ : ∃ T, T = w5.heap.size := ⟨_, rfl⟩
 rw [← hT] at hb HLT ⊢
 clear hT
 have H1 := jh (zaa H1.out HX.out)
 have H2 := jh (zaa H2.out HX.out)
 have H3 := jh (zaa H3.out HX.out)
 have H4 := jh (zaa H4.out HX.out)
 have H5 := jh (zaa H5.out HX.out)
 have HE := jh (HE.out.trans HX.out)
 have HVo := jh hb
 clear hb hg HX HZ HEA HL
 generalize w7 = wo at *
 go_wp2_with fail
 refine zal 6 2 7 rfl (by kernel_rfl) (by kernel_rfl) (fun d v c a w h => by cases d <;> exact h) (by kernel_rfl) ?_
 have HLO := jh HVo.out.lt
 refine zai _ _ (A + 1) 0 (ptF p) _ (by rfl) rfl rfl (fun w hw => (zaa H2.out hw).range) Tryz.underlying85 rfl (zbb _) ?_
 simp only [Act.put, nrm]
 refine zai _ _ (A + 1 + 1 + 1) 0 (ptF q) _ (by rfl) rfl rfl (fun w hw => (zaa H4.out hw).range) Tryz.underlying85 rfl (zbb _) ?_
 simp only [Act.put, nrm]
 refine zai _ _ (A + 1) 0 (ptF p) _ (by rfl) rfl rfl (fun w hw => (zaa H2.out hw).range) Tryz.underlying85 rfl (zbb _) ?_
 simp only [Act.put, nrm]
 refine zai _ _ (A + 1 + 1 + 1) 0 (ptF q) _ (by rfl) rfl rfl (fun w hw => (zaa H4.out hw).range) Tryz.underlying85 rfl (zbb _) ?_
 simp only [Act.put, nrm]
 refine zah _ _ _ [.agg (ptF p).toArray, .agg (ptF q).toArray] (.agg (ptF (p.sum q)).toArray) (by rfl) rfl Tryz.call94 rfl (fun w hw => csum_f w p q (HGC.out.ext (HE.out.trans hw))) ?_
 simp only [Act.put, nrm]
 refine zeu _ _ #[(1, .agg (ptF p).toArray), (2, .agg (ptF q).toArray), (3, .agg (ptF (p.sum q)).toArray)] (.agg (st4 p q (p.sum q)).toArray) (by rfl) rfl (by simp [Act.eval]) (fun w => build_st4 p q (p.sum q) w) ?_
 simp only [Act.put, nrm]
 refine zba (zfb (k := 6) _ 10 (.tmp 19) z4 (st4 p q (p.sum q)) rfl rfl (by kernel_rfl) (by kernel_rfl) (by kernel_rfl) (by kernel_rfl) (by kernel_rfl) rfl rfl rfl rfl (fun w => zero_st4 w) rfl (by simp) (fun p => rfl) ((st4_length _ _ _).trans z4_length.symm) (st4_size _ _ _) (st4_one _ _ _) (fun pg wg hp hb he => ?_))
 try simp only [Act.put, nrm]
 have H1 := jh (zaa H1.out he)
 have H2 := jh (zaa H2.out he)
 have H3 := jh (zaa H3.out he)
 have H4 := jh (zaa H4.out he)
 have H5 := jh (zaa H5.out he)
 have HVo := jh (zaa HVo.out he)
 have HE := jh (HE.out.trans he)
 have HPg := jh hp
 clear he hp
 have HVg := jh hb
 clear hb
 have HOG : Hid (po < pg) := jh (Nat.lt_of_lt_of_le HLO.out HPg.out)
 go_wp2_with fail
 go_loopw [11, 12] (fun i u wr => ∃ k : Nat, k ≤ 255 ∧ i = .int .i64 (254 - (k : Int)) ∧ Blk wr po (ptF (trun p q (leN m) (leN n) k)) 85 ∧ Blk wr pg (st4 p q (p.sum q)) 133 ∧ Blk wr A (m.map bval) 23 ∧ Blk wr (A + 1) (ptF p) 85 ∧ Blk wr (A + 1 + 1) (n.map bval) 23 ∧ Blk wr (A + 1 + 1 + 1) (ptF q) 85 ∧ Blk wr (A + 1 + 1 + 1 + 1) zq 85 ∧ Ext w wr) (fun i _ _ => (intOf i + 1).toNat)
 case atStart => exact ⟨0, by omega, rfl, HVo.out, HVg.out, H1.out, H2.out, H3.out, H4.out, H5.out, HE.out⟩
 case round =>
  clear HVo HVg H1 H2 H3 H4 H5 HE
  obtain ⟨k, hk, rfl, q1, q2, q3, q4, q5, q6, q7, q8⟩ := hrel
  have i0' : (0 : Int) ≤ (k : Int) := Int.natCast_nonneg _
  obtain ⟨s, hs⟩ : ∃ s, s = trun p q (leN m) (leN n) k := ⟨_, rfl⟩
  rw [← hs] at q1
  have HVo := jh q1
  have HVg := jh q2
  have H1 := jh q3
  have H2 := jh q4
  have H3 := jh q5
  have H4 := jh q6
  have H5 := jh q7
  have HE := jh q8
  clear q1 q2 q3 q4 q5 q6 q7 q8
  by_cases hlt : k < 255
  ·have i1 : (0 : Int) ≤ 254 - (k : Int) := by omega
   obtain ⟨j, hj⟩ : ∃ j, j = 254 - k := ⟨_, rfl⟩
   have hmi : 254 - (k : Int) = (j : Int) := by omega
   have HST : Hid (trun p q (leN m) (leN n) (k + 1) = tstep p q s.dbl ((leN m).testBit j) ((leN n).testBit j)) := jh (by rw [trun, ← hj, ← hs])
   have HMI := jh hmi
   have hmk : j ≤ 254 := by omega
   have HMK := jh hmk
   clear hj hmi hmk hs
   go_wp2_with (first | (refine wpList_load_mid rfl _ _ rfl po 0 rfl _ _ (HVo.out.range) Tryz.underlying85 rfl (zbb _) ?_))
   refine (ctwice_f _ _).mono ?_
   rintro e wb ⟨rfl, hb⟩
   have H1 := jh (zaa H1.out hb)
   have H2 := jh (zaa H2.out hb)
   have H3 := jh (zaa H3.out hb)
   have H4 := jh (zaa H4.out hb)
   have H5 := jh (zaa H5.out hb)
   have HVg := jh (zaa HVg.out hb)
   have HVo := jh (zaa HVo.out hb)
   have HE := jh (HE.out.trans hb)
   clear hb
   obtain ⟨sd, hsd⟩ : ∃ sd, sd = s.dbl := ⟨_, rfl⟩
   rw [← hsd]
   rw [← hsd] at HST
   clear hsd
   have HL : Hid ((ptF sd).length = (ptF s).length) := jh (by rw [zbd, zbd])
   go_upto_region 7 with (refine zab rfl _ _ _ rfl po (ptF sd) rfl rfl _ _ HVo.out HL.out (zbb _) (zcp _) ?_; intro wc hb2 hg2)
   have H1 := jh (H1.out.grown hg2 (by have := HLT.out; simp; omega))
   have H2 := jh (H2.out.grown hg2 (by have := HLT.out; simp; omega))
   have H3 := jh (H3.out.grown hg2 (by have := HLT.out; simp; omega))
   have H4 := jh (H4.out.grown hg2 (by have := HLT.out; simp; omega))
   have H5 := jh (H5.out.grown hg2 (by have := HLT.out; simp; omega))
   have HVg := jh (HVg.out.grown hg2 (by have := HOG.out; simp; omega))
   have HE := jh (zad HE.out hg2 (by have := HLT.out; have := HAW.out; omega))
   have HVo := jh hb2
   clear hb2 hg2 HL
   obtain ⟨ta, hta⟩ : ∃ ta, (leN m).testBit j = ta := ⟨_, rfl⟩
   obtain ⟨tb, htb⟩ : ∃ tb, (leN n).testBit j = tb := ⟨_, rfl⟩
   rw [hta, htb] at HST
   have HTA := jh hta
   have HTB := jh htb
   clear hta htb
   cases ta <;> cases tb
   ·go_wp2_with fail
    refine zbm (by kernel_rfl) (by kernel_rfl) ?_
    refine zai _ _ A 0 (m.map bval) _ (by rfl) rfl rfl (fun w hw => (zaa H1.out hw).range) Tryz.underlying23 rfl (zaf HML.out) ?_
    simp only [Act.put, nrm]
    refine zbc _ (.int .i64 (j : Int)) (by rfl) rfl (by show Value.int .i64 (254 - (k : Int)) = _; rw [HMI.out]) ?_
    simp only [Act.put, nrm]
    refine zah _ _ _ [.agg (m.map bval).toArray, .int .i64 (j : Int)] (.int .u8 0) (by rfl) rfl Tryz.call95 rfl (fun w hw => cbit_t m j w false HML.out (by have := HMK.out; omega) HTA.out) ?_
    simp only [Act.put, nrm]
    refine zai _ _ (A + 1 + 1) 0 (n.map bval) _ (by rfl) rfl rfl (fun w hw => (zaa H3.out hw).range) Tryz.underlying23 rfl (zaf HNL.out) ?_
    simp only [Act.put, nrm]
    refine zbc _ (.int .i64 (j : Int)) (by rfl) rfl (by show Value.int .i64 (254 - (k : Int)) = _; rw [HMI.out]) ?_
    simp only [Act.put, nrm]
    refine zah _ _ _ [.agg (n.map bval).toArray, .int .i64 (j : Int)] (.int .u8 0) (by rfl) rfl Tryz.call95 rfl (fun w hw => cbit_t n j w false HNL.out (by have := HMK.out; omega) HTB.out) ?_
    simp only [Act.put, nrm]
    refine zfq _ _ _ _ .u8 .u64 0 0 1 (by rfl) rfl rfl rfl (by decide) (by decide) ?_
    simp only [Act.put, nrm]
    refine det_or _ _ _ _ .u8 0 0 0 (by rfl) rfl rfl rfl (by decide) ?_
    simp only [Act.put, nrm]
    refine zbs _ (.int .u8 0) (by rfl) rfl rfl ?_
    simp only [Act.put, nrm]
    refine zba (fun wd hwd => ?_)
    have H1 := jh (zaa H1.out hwd)
    have H2 := jh (zaa H2.out hwd)
    have H3 := jh (zaa H3.out hwd)
    have H4 := jh (zaa H4.out hwd)
    have H5 := jh (zaa H5.out hwd)
    have HVg := jh (zaa HVg.out hwd)
    have HVo := jh (zaa HVo.out hwd)
    have HE := jh (HE.out.trans hwd)
    clear hwd
    go_wp2_with fail
    go_roundw
    case rel => exact ⟨k + 1, by omega, by go_num, by rw [HST.out]; exact HVo.out, HVg.out, H1.out, H2.out, H3.out, H4.out, H5.out, HE.out⟩
    case measure => simp [intOf]; omega
   ·go_wp2_with fail
    refine zbm (by kernel_rfl) (by kernel_rfl) ?_
    refine zai _ _ A 0 (m.map bval) _ (by rfl) rfl rfl (fun w hw => (zaa H1.out hw).range) Tryz.underlying23 rfl (zaf HML.out) ?_
    simp only [Act.put, nrm]
    refine zbc _ (.int .i64 (j : Int)) (by rfl) rfl (by show Value.int .i64 (254 - (k : Int)) = _; rw [HMI.out]) ?_
    simp only [Act.put, nrm]
    refine zah _ _ _ [.agg (m.map bval).toArray, .int .i64 (j : Int)] (.int .u8 0) (by rfl) rfl Tryz.call95 rfl (fun w hw => cbit_t m j w false HML.out (by have := HMK.out; omega) HTA.out) ?_
    simp only [Act.put, nrm]
    refine zai _ _ (A + 1 + 1) 0 (n.map bval) _ (by rfl) rfl rfl (fun w hw => (zaa H3.out hw).range) Tryz.underlying23 rfl (zaf HNL.out) ?_
    simp only [Act.put, nrm]
    refine zbc _ (.int .i64 (j : Int)) (by rfl) rfl (by show Value.int .i64 (254 - (k : Int)) = _; rw [HMI.out]) ?_
    simp only [Act.put, nrm]
    refine zah _ _ _ [.agg (n.map bval).toArray, .int .i64 (j : Int)] (.int .u8 1) (by rfl) rfl Tryz.call95 rfl (fun w hw => cbit_t n j w true HNL.out (by have := HMK.out; omega) HTB.out) ?_
    simp only [Act.put, nrm]
    refine zfq _ _ _ _ .u8 .u64 1 2 1 (by rfl) rfl rfl rfl (by decide) (by decide) ?_
    simp only [Act.put, nrm]
    refine det_or _ _ _ _ .u8 0 2 2 (by rfl) rfl rfl rfl (by decide) ?_
    simp only [Act.put, nrm]
    refine zbs _ (.int .u8 2) (by rfl) rfl rfl ?_
    simp only [Act.put, nrm]
    refine zba (fun wd hwd => ?_)
    have H1 := jh (zaa H1.out hwd)
    have H2 := jh (zaa H2.out hwd)
    have H3 := jh (zaa H3.out hwd)
    have H4 := jh (zaa H4.out hwd)
    have H5 := jh (zaa H5.out hwd)
    have HVg := jh (zaa HVg.out hwd)
    have HVo := jh (zaa HVo.out hwd)
    have HE := jh (HE.out.trans hwd)
    clear hwd
    go_wp2_with fail
    refine zal 5 1 5 rfl (by kernel_rfl) (by kernel_rfl) (fun d v c a w h => by cases d <;> exact h) (by kernel_rfl) ?_
    refine zai _ _ po 0 (ptF sd) _ (by rfl) rfl rfl (fun w hw => (zaa HVo.out hw).range) Tryz.underlying85 rfl (zbb _) ?_
    simp only [Act.put, nrm]
    refine zbc _ (.int .u8 2) (by rfl) rfl rfl ?_
    simp only [Act.put, nrm]
    refine det_indexm _ 85 _ _ pg 4 128 .u8 2 256 (by rfl) rfl rfl rfl Tryz.underlying133 (by decide) size_cpt rfl ?_
    simp only [Act.put, nrm]
    refine zai _ _ pg 256 (ptF q) _ (by rfl) rfl rfl (fun w hw => st4_at2 (zaa HVg.out hw).range) Tryz.underlying85 rfl (zbb _) ?_
    simp only [Act.put, nrm]
    refine zah _ _ _ [.agg (ptF sd).toArray, .agg (ptF q).toArray] (.agg (ptF (sd.sum q)).toArray) (by rfl) rfl Tryz.call94 rfl (fun w hw => csum_f w sd q (HGC.out.ext (HE.out.trans hw))) ?_
    simp only [Act.put, nrm]
    refine zba (zeq (k := 5) _ _ _ _ po (ptF (sd.sum q)) (ptF sd) rfl (by kernel_rfl) (by kernel_rfl) (by kernel_rfl) rfl rfl rfl rfl HVo.out (by rw [zbd, zbd]) (zbb _) (zcp _) (fun w8 hb8 hg8 => ?_))
    simp only [Act.put]
    go_wp2_with fail
    go_roundw
    case rel =>
     refine ⟨k + 1, by omega, by go_num, by rw [HST.out]; exact hb8, HVg.out.grown hg8 (by have := HOG.out; simp; omega), H1.out.grown hg8 (by have := HLT.out; simp; omega), H2.out.grown hg8 (by have := HLT.out; simp; omega), H3.out.grown hg8 (by have := HLT.out; simp; omega), H4.out.grown hg8 (by have := HLT.out; simp; omega), H5.out.grown hg8 (by have := HLT.out; simp; omega), zad HE.out hg8 (by have := HLT.out; have := HAW.out; omega)⟩
    case measure => simp [intOf]; omega
   ·go_wp2_with fail
    refine zbm (by kernel_rfl) (by kernel_rfl) ?_
    refine zai _ _ A 0 (m.map bval) _ (by rfl) rfl rfl (fun w hw => (zaa H1.out hw).range) Tryz.underlying23 rfl (zaf HML.out) ?_
    simp only [Act.put, nrm]
    refine zbc _ (.int .i64 (j : Int)) (by rfl) rfl (by show Value.int .i64 (254 - (k : Int)) = _; rw [HMI.out]) ?_
    simp only [Act.put, nrm]
    refine zah _ _ _ [.agg (m.map bval).toArray, .int .i64 (j : Int)] (.int .u8 1) (by rfl) rfl Tryz.call95 rfl (fun w hw => cbit_t m j w true HML.out (by have := HMK.out; omega) HTA.out) ?_
    simp only [Act.put, nrm]
    refine zai _ _ (A + 1 + 1) 0 (n.map bval) _ (by rfl) rfl rfl (fun w hw => (zaa H3.out hw).range) Tryz.underlying23 rfl (zaf HNL.out) ?_
    simp only [Act.put, nrm]
    refine zbc _ (.int .i64 (j : Int)) (by rfl) rfl (by show Value.int .i64 (254 - (k : Int)) = _; rw [HMI.out]) ?_
    simp only [Act.put, nrm]
    refine zah _ _ _ [.agg (n.map bval).toArray, .int .i64 (j : Int)] (.int .u8 0) (by rfl) rfl Tryz.call95 rfl (fun w hw => cbit_t n j w false HNL.out (by have := HMK.out; omega) HTB.out) ?_
    simp only [Act.put, nrm]
    refine zfq _ _ _ _ .u8 .u64 0 0 1 (by rfl) rfl rfl rfl (by decide) (by decide) ?_
    simp only [Act.put, nrm]
    refine det_or _ _ _ _ .u8 1 0 1 (by rfl) rfl rfl rfl (by decide) ?_
    simp only [Act.put, nrm]
    refine zbs _ (.int .u8 1) (by rfl) rfl rfl ?_
    simp only [Act.put, nrm]
    refine zba (fun wd hwd => ?_)
    have H1 := jh (zaa H1.out hwd)
    have H2 := jh (zaa H2.out hwd)
    have H3 := jh (zaa H3.out hwd)
    have H4 := jh (zaa H4.out hwd)
    have H5 := jh (zaa H5.out hwd)
    have HVg := jh (zaa HVg.out hwd)
    have HVo := jh (zaa HVo.out hwd)
    have HE := jh (HE.out.trans hwd)
    clear hwd
    go_wp2_with fail
    refine zal 5 1 5 rfl (by kernel_rfl) (by kernel_rfl) (fun d v c a w h => by cases d <;> exact h) (by kernel_rfl) ?_
    refine zai _ _ po 0 (ptF sd) _ (by rfl) rfl rfl (fun w hw => (zaa HVo.out hw).range) Tryz.underlying85 rfl (zbb _) ?_
    simp only [Act.put, nrm]
    refine zbc _ (.int .u8 1) (by rfl) rfl rfl ?_
    simp only [Act.put, nrm]
    refine det_indexm _ 85 _ _ pg 4 128 .u8 1 128 (by rfl) rfl rfl rfl Tryz.underlying133 (by decide) size_cpt rfl ?_
    simp only [Act.put, nrm]
    refine zai _ _ pg 128 (ptF p) _ (by rfl) rfl rfl (fun w hw => st4_at1 (zaa HVg.out hw).range) Tryz.underlying85 rfl (zbb _) ?_
    simp only [Act.put, nrm]
    refine zah _ _ _ [.agg (ptF sd).toArray, .agg (ptF p).toArray] (.agg (ptF (sd.sum p)).toArray) (by rfl) rfl Tryz.call94 rfl (fun w hw => csum_f w sd p (HGC.out.ext (HE.out.trans hw))) ?_
    simp only [Act.put, nrm]
    refine zba (zeq (k := 5) _ _ _ _ po (ptF (sd.sum p)) (ptF sd) rfl (by kernel_rfl) (by kernel_rfl) (by kernel_rfl) rfl rfl rfl rfl HVo.out (by rw [zbd, zbd]) (zbb _) (zcp _) (fun w8 hb8 hg8 => ?_))
    simp only [Act.put]
    go_wp2_with fail
    go_roundw
    case rel =>
     refine ⟨k + 1, by omega, by go_num, by rw [HST.out]; exact hb8, HVg.out.grown hg8 (by have := HOG.out; simp; omega), H1.out.grown hg8 (by have := HLT.out; simp; omega), H2.out.grown hg8 (by have := HLT.out; simp; omega), H3.out.grown hg8 (by have := HLT.out; simp; omega), H4.out.grown hg8 (by have := HLT.out; simp; omega), H5.out.grown hg8 (by have := HLT.out; simp; omega), zad HE.out hg8 (by have := HLT.out; have := HAW.out; omega)⟩
    case measure => simp [intOf]; omega
   ·go_wp2_with fail
    refine zbm (by kernel_rfl) (by kernel_rfl) ?_
    refine zai _ _ A 0 (m.map bval) _ (by rfl) rfl rfl (fun w hw => (zaa H1.out hw).range) Tryz.underlying23 rfl (zaf HML.out) ?_
    simp only [Act.put, nrm]
    refine zbc _ (.int .i64 (j : Int)) (by rfl) rfl (by show Value.int .i64 (254 - (k : Int)) = _; rw [HMI.out]) ?_
    simp only [Act.put, nrm]
    refine zah _ _ _ [.agg (m.map bval).toArray, .int .i64 (j : Int)] (.int .u8 1) (by rfl) rfl Tryz.call95 rfl (fun w hw => cbit_t m j w true HML.out (by have := HMK.out; omega) HTA.out) ?_
    simp only [Act.put, nrm]
    refine zai _ _ (A + 1 + 1) 0 (n.map bval) _ (by rfl) rfl rfl (fun w hw => (zaa H3.out hw).range) Tryz.underlying23 rfl (zaf HNL.out) ?_
    simp only [Act.put, nrm]
    refine zbc _ (.int .i64 (j : Int)) (by rfl) rfl (by show Value.int .i64 (254 - (k : Int)) = _; rw [HMI.out]) ?_
    simp only [Act.put, nrm]
    refine zah _ _ _ [.agg (n.map bval).toArray, .int .i64 (j : Int)] (.int .u8 1) (by rfl) rfl Tryz.call95 rfl (fun w hw => cbit_t n j w true HNL.out (by have := HMK.out; omega) HTB.out) ?_
    simp only [Act.put, nrm]
    refine zfq _ _ _ _ .u8 .u64 1 2 1 (by rfl) rfl rfl rfl (by decide) (by decide) ?_
    simp only [Act.put, nrm]
    refine det_or _ _ _ _ .u8 1 2 3 (by rfl) rfl rfl rfl (by decide) ?_
    simp only [Act.put, nrm]
    refine zbs _ (.int .u8 3) (by rfl) rfl rfl ?_
    simp only [Act.put, nrm]
    refine zba (fun wd hwd => ?_)
    have H1 := jh (zaa H1.out hwd)
    have H2 := jh (zaa H2.out hwd)
    have H3 := jh (zaa H3.out hwd)
    have H4 := jh (zaa H4.out hwd)
    have H5 := jh (zaa H5.out hwd)
    have HVg := jh (zaa HVg.out hwd)
    have HVo := jh (zaa HVo.out hwd)
    have HE := jh (HE.out.trans hwd)
    clear hwd
    go_wp2_with fail
    refine zal 5 1 5 rfl (by kernel_rfl) (by kernel_rfl) (fun d v c a w h => by cases d <;> exact h) (by kernel_rfl) ?_
    refine zai _ _ po 0 (ptF sd) _ (by rfl) rfl rfl (fun w hw => (zaa HVo.out hw).range) Tryz.underlying85 rfl (zbb _) ?_
    simp only [Act.put, nrm]
    refine zbc _ (.int .u8 3) (by rfl) rfl rfl ?_
    simp only [Act.put, nrm]
    refine det_indexm _ 85 _ _ pg 4 128 .u8 3 384 (by rfl) rfl rfl rfl Tryz.underlying133 (by decide) size_cpt rfl ?_
    simp only [Act.put, nrm]
    refine zai _ _ pg 384 (ptF (p.sum q)) _ (by rfl) rfl rfl (fun w hw => st4_at3 (zaa HVg.out hw).range) Tryz.underlying85 rfl (zbb _) ?_
    simp only [Act.put, nrm]
    refine zah _ _ _ [.agg (ptF sd).toArray, .agg (ptF (p.sum q)).toArray] (.agg (ptF (sd.sum (p.sum q))).toArray) (by rfl) rfl Tryz.call94 rfl (fun w hw => csum_f w sd (p.sum q) (HGC.out.ext (HE.out.trans hw))) ?_
    simp only [Act.put, nrm]
    refine zba (zeq (k := 5) _ _ _ _ po (ptF (sd.sum (p.sum q))) (ptF sd) rfl (by kernel_rfl) (by kernel_rfl) (by kernel_rfl) rfl rfl rfl rfl HVo.out (by rw [zbd, zbd]) (zbb _) (zcp _) (fun w8 hb8 hg8 => ?_))
    simp only [Act.put]
    go_wp2_with fail
    go_roundw
    case rel =>
     refine ⟨k + 1, by omega, by go_num, by rw [HST.out]; exact hb8, HVg.out.grown hg8 (by have := HOG.out; simp; omega), H1.out.grown hg8 (by have := HLT.out; simp; omega), H2.out.grown hg8 (by have := HLT.out; simp; omega), H3.out.grown hg8 (by have := HLT.out; simp; omega), H4.out.grown hg8 (by have := HLT.out; simp; omega), H5.out.grown hg8 (by have := HLT.out; simp; omega), zad HE.out hg8 (by have := HLT.out; have := HAW.out; omega)⟩
    case measure => simp [intOf]; omega
  ·have hk' : k = 255 := by omega
   subst hk'
   have HS := jh hs
   clear hs
   have HL : Hid ((ptF s).length = zq.length) := jh ((zbd _).trans zq_length.symm)
   go_wp2_with (first | (refine wpList_load_mid rfl _ _ rfl po 0 rfl _ _ HVo.out.range Tryz.underlying85 rfl (zbb _) ?_) | (refine zab rfl _ _ _ rfl (A + 1 + 1 + 1 + 1) (ptF s) rfl rfl _ _ H5.out HL.out (zbb _) (zcp _) ?_; intro w9 hb9 hg9))
   exact bodyPost_ret (zay (by rfl) _ (A + 1 + 1 + 1 + 1) _ _ _ (by rfl) hb9 Tryz.underlying85 rfl (zbb _)) rfl ⟨by rw [HS.out], zad HE.out hg9 (by have := HAW.out; omega)⟩
end
theorem run_arr_at {P : Program} {arr e : TypeId} {n : Nat} (hu : P.underlying arr = some (.array n e)) (a : Option Addr) (len cap : Nat) (h : n ≤ len) (w : World) :
  (Instr.arrayAt arr (.slice a len cap)).run P w = .ok (.pointer a) w := by
 unfold Instr.arrayAt
 simp [run_underlying hu, show ¬ len < n by omega]
theorem crv_Sum_one (l : List UInt8) (x : Value) (w : World) (hx : Row1 w x (l.map bval)) (hl : l.length ≤ 1099511627776) (hG : GlobRQ w) :
  Calls Tryz.prog 89 #[.slice (some ⟨w.heap.size, 0, none⟩) 1 1] (w.alloc (.cells #[x] 46)) fun e w' => e = .returned (.agg ((sha512 l).map bval).toArray) ∧ Below w.heap.size w w' := by
 have he := Ext.alloc w (.cells #[x] 46)
 have h := Sum_numQ _ [l] _ (rowB1 (Row1.made w #[x] 46 _ 1 [x] rfl rfl rfl (by unfold maxLen; omega)) (hx.below he)) (by simpa using hl) (hG.ext he)
 refine h.mono ?_
 rintro e w' ⟨h1, h2⟩
 rw [show [l].flatten = l from by simp] at h1
 exact ⟨h1, he.trans h2⟩
theorem results_cell_cell {fn : Func} {p u : Tmp} {ty ty2 : TypeId} (h : fn.results = #[.cell p ty, .cell u ty2]) (tmps : Array Value) (P : Program) (w : World) :
  (results fn tmps).run P w =
   ((asAddr (tmps.getD p undef)).run P w).andThen fun a w₁ => ((loadVar ty a).run P w₁).andThen fun v w₂ => ((asAddr (tmps.getD u undef)).run P w₂).andThen fun b w₃ => ((loadVar ty2 b).run P w₃).andThen fun x w₄ => .ok (.tuple #[v, x]) w₄ := by
 simp only [results, h]
 simp [Sem.run_bind, Result.andThen]
theorem result_two {P : Program} {w : World} {fn : Func} {p u : Tmp} {ty : TypeId} (h : fn.results = #[.cell p ty, .cell u ty]) (tmps : Array Value) (c c2 : Nat) (tb tb2 : TypeId) (cs cs2 : List Value) (d : TypeDesc)
  (hp : tmps.getD p undef = .pointer (some ⟨c, 0, none⟩)) (hq : tmps.getD u undef = .pointer (some ⟨c2, 0, none⟩)) (hb : Blk w c cs tb) (hb2 : Blk w c2 cs2 tb2) (hu : P.underlying ty = some d) (hd : d.isRow = true) (hi : (P.info? ty).map (·.size) = some cs.length) (hi2 : (P.info? ty).map (·.size) = some cs2.length) :
  (results fn tmps).run P w = .ok (.tuple #[.agg cs.toArray, .agg cs2.toArray]) w := by
 rw [results_cell_cell h, hp, hq]
 simp only [asAddr, Sem.run_pure, Result.andThen_ok, run_loadVar_mid w c 0 ty cs d hb.range hu hd hi, run_loadVar_mid w c2 0 ty cs2 d hb2.range hu hd hi2]
theorem csecrets_f (sd : List UInt8) (w : World) (hs : sd.length = 32) (hR : GlobRQ w) : Calls Tryz.prog 50 #[.agg (sd.map bval).toArray] w fun e w' => e = .returned (.tuple #[.agg ((secA sd).map bval).toArray, .agg ((secH sd).map bval).toArray]) ∧ Below w.heap.size w w' := by
 have HSL := jh hs
 have HGR := jh hR
 clear hs hR
 have HB := jh (boxes3 w (sd.map bval) (ints .u8 (List.replicate 32 0)) (ints .u8 (List.replicate 32 0)) 23 23 23)
 go_enter Tryz.func50, Tryz.ntmps50
 go_upto_region 1 with (fail)
 obtain ⟨H1, H2, H3, HE⟩ := HB.out
 change Code.wp _ _ _ _ (World.alloc (World.alloc (World.alloc w (.cells (sd.map bval).toArray 23)) (.cells (ints .u8 (List.replicate 32 0)).toArray 23)) (.cells (ints .u8 (List.replicate 32 0)).toArray 23))
 generalize (World.alloc (World.alloc (World.alloc w (.cells (sd.map bval).toArray 23)) (.cells (ints .u8 (List.replicate 32 0)).toArray 23)) (.cells (ints .u8 (List.replicate 32 0)).toArray 23)) = wa at *
 obtain ⟨A, hA⟩ : ∃ A, A = w.heap.size := ⟨_, rfl⟩
 have HAW : Hid (w.heap.size ≤ A) := jh (by omega)
 rw [← hA] at H1 H2 H3 ⊢
 have H1 := jh H1
 have H2 := jh H2
 have H3 := jh H3
 have HE : Hid (Ext w wa) := jh HE
 clear hA HB
 go_wp2_with fail
 refine (crv_Sum_one sd _ wa (zcm (n := 32) H1.out (by rw [List.length_map]; exact HSL.out) (by unfold maxLen; omega)) (by rw [HSL.out]; omega) (HGR.out.ext HE.out)).mono ?_
 rintro e w6 ⟨rfl, hb⟩
 have H2 := jh (zaa H2.out hb)
 have H3 := jh (zaa H3.out hb)
 have HE := jh (HE.out.trans hb)
 clear hb H1
 obtain ⟨dg, hdg⟩ : ∃ dg, dg = sha512 sd := ⟨_, rfl⟩
 rw [← hdg]
 have HDL : Hid (dg.length = 64) := jh (by rw [hdg]; exact zcg sd)
 have HA1 : Hid (clampB (dg.take 32) = secA sd) := jh (by rw [hdg]; rfl)
 have HA2 : Hid (dg.drop 32 = secH sd) := jh (by rw [hdg]; rfl)
 clear hdg
 have HZ := jh (Blk.made w6 (ints .u8 (List.replicate 64 0)) 26)
 have HEA := jh (Ext.alloc w6 (.cells (ints .u8 (List.replicate 64 0)).toArray 26))
 have HLD : Hid ((dg.map bval).length = (ints .u8 (List.replicate 64 0)).length) := jh (by rw [List.length_map, HDL.out, zac]; rfl)
 have HLT := jh H3.out.lt
 go_upto_region 2 with (refine zab rfl _ _ _ rfl w6.heap.size (dg.map bval) rfl rfl _ _ HZ.out HLD.out (zct HDL.out) (zaj _) ?_; intro w7 hb hg)
 have HX := jh (zad HEA.out hg (Nat.le_refl _))
 obtain ⟨pd, hT⟩ : ∃ T, T = w6.heap.size := ⟨_, rfl⟩
 rw [← hT] at hb HLT ⊢
 clear hT
 have H2 := jh (zaa H2.out HX.out)
 have H3 := jh (zaa H3.out HX.out)
 have HE := jh (HE.out.trans HX.out)
 obtain ⟨dl, hdl⟩ : ∃ dl, dl = dg.take 32 := ⟨_, rfl⟩
 obtain ⟨dr, hdr⟩ : ∃ dr, dr = dg.drop 32 := ⟨_, rfl⟩
 have hsp : dg = dl ++ dr := by rw [hdl, hdr, List.take_append_drop]
 have HLL : Hid (dl.length = 32) := jh (by rw [hdl, List.length_take, HDL.out]; rfl)
 have HLR : Hid (dr.length = 32) := jh (by rw [hdr, List.length_drop, HDL.out])
 rw [← hdl] at HA1
 rw [← hdr] at HA2
 rw [hsp, List.map_append] at hb
 have HV5 := jh hb
 clear hb hg HX HZ HEA HLD hdl hdr hsp HDL
 generalize w7 = wd at *
 have HCL := jh (zdl HLL.out)
 obtain ⟨ca, hca⟩ : ∃ k, k = clampB dl := ⟨_, rfl⟩
 have HCC := jh (fun w => cclamped_any dl w HLL.out)
 rw [← hca] at HCC HCL HA1
 clear hca
 have hat1 := run_arr_at (P := Tryz.prog) Tryz.underlying23 (some ⟨pd, 0, none⟩) 32 64 (Nat.le_refl _)
 have hat2 := run_arr_at (P := Tryz.prog) Tryz.underlying23 (some ⟨pd, 32, none⟩) 32 32 (Nat.le_refl _)
 have B0 := zaa HV5.out (Ext.drew wd)
 refine wp_region_held_drew (S := fun w' => Blk w' pd (dl.map bval ++ dr.map bval) 26) (by kernel_rfl) B0 (fun hHeld => ?_)
 refine tke 0 (.slice (some ⟨pd, 0, none⟩) 32 64) rfl (zbl _ (by rfl) (fun w _ => by go_simp)) hHeld ?_
 simp only [Act.put, nrm]
 refine tke 1 (.pointer (some ⟨pd, 0, none⟩)) rfl (zbl _ (by rfl) (fun w _ => by go_simp)) hHeld ?_
 simp only [Act.put, nrm]
 refine tke 2 (.agg (dl.map bval).toArray) rfl (yieldsIf_load_mid (by rfl) _ _ rfl pd 0 rfl _ _ (fun w h => rng_lo h.range) Tryz.underlying23 rfl (zaf HLL.out)) hHeld ?_
 simp only [Act.put, nrm]
 refine tke 4 (.slice (some ⟨pd, 32, none⟩) 32 32) rfl (zbl _ (by rfl) (fun w _ => by go_simp)) hHeld ?_
 simp only [Act.put, nrm]
 refine tke 5 (.pointer (some ⟨pd, 32, none⟩)) rfl (zbl _ (by rfl) (fun w _ => by go_simp)) hHeld ?_
 simp only [Act.put, nrm]
 refine tke 6 (.agg (dr.map bval).toArray) rfl (yieldsIf_load_mid (by rfl) _ _ rfl pd 32 rfl _ _ (fun w h => rng_hi (m := 32) h.range (by rw [List.length_map]; exact HLL.out) rfl) Tryz.underlying23 rfl (zaf HLR.out)) hHeld ?_
 simp only [Act.put, nrm]
 refine rdy 3 rfl fun K hK => ?_
 go_simp
 refine (HCC.out _).mono ?_
 rintro e m1 ⟨rfl, b1⟩
 have c1 := (Ext.drew wd).trans b1
 refine hK.out _ _ (zaa B0 b1) (fun hHeld => ?_)
 clear hK K
 try simp only [Act.put, nrm]
 refine rdy 7 rfl fun K hK => ?_
 refine zan (by rfl) ?_
 refine zak _ _ _ rfl (A + 1) (ca.map bval) rfl rfl _ _ (zaa H2.out c1) (by rw [List.length_map, HCL.out]; rfl) (zaf HCL.out) (zaj _) ?_
 intro m2 hb2 hg2
 refine hK.out _ _ ((zaa B0 b1).grown hg2 (by have := HLT.out; simp; omega)) (fun hHeld => ?_)
 clear hK K
 try simp only [Act.put, nrm]
 refine rdy 8 rfl fun K hK => ?_
 refine zan (by rfl) ?_
 refine zak _ _ _ rfl (A + 1 + 1) (dr.map bval) rfl rfl _ _ ((zaa H3.out c1).grown hg2 (by simp)) (by rw [List.length_map, HLR.out]; rfl) (zaf HLR.out) (zaj _) ?_
 intro m3 hb3 hg3
 refine hK.out _ _ (((zaa B0 b1).grown hg2 (by have := HLT.out; simp; omega)).grown hg3 (by have := HLT.out; simp; omega)) (fun hHeld => ?_)
 clear hK K
 try simp only [Act.put, nrm]
 refine dne ?_
 have r2 := hb2.grown hg3 (by simp)
 have HE3 := zad (zad (HE.out.trans c1) hg2 (by have := HAW.out; omega)) hg3 (by have := HAW.out; omega)
 go_wp2_with fail
 refine bodyPost_ret (result_two rfl _ (A + 1) (A + 1 + 1) _ _ _ _ _ rfl rfl r2 hb3 Tryz.underlying23 rfl (zaf HCL.out) (zaf HLR.out)) rfl ?_
 exact ⟨by rw [HA1.out, HA2.out], HE3⟩
theorem secA_length (s : List UInt8) : (secA s).length = 32 := zdl (by rw [List.length_take, zcg]; rfl)
theorem secH_length (s : List UInt8) : (secH s).length = 32 := by unfold secH; rw [List.length_drop, zcg]
theorem clampB_lt {l : List UInt8} (h : l.length = 32) : leN (clampB l) < 2 ^ 255 := by
 refine leN_top (zdl h) ?_
 unfold clampB
 rw [getD_set_self _ 31 _ (by simp [h])]
 have hh : ∀ m : Fin 256, ((UInt8.ofNat m.val &&& 127) ||| 64).toNat < 128 := by decide +kernel
 generalize (l.set 0 (l.getD 0 0 &&& 248)).getD 31 0 = b
 have := hh ⟨b.toNat, b.toNat_lt⟩
 simpa using this
theorem secA_lt (s : List UInt8) : leN (secA s) < 2 ^ 255 := clampB_lt (by rw [List.length_take, zcg]; rfl)
theorem wideB_lt (m : List UInt8) : leN (wideB m) < 2 ^ 255 := by
 unfold wideB
 rw [leN_nq]
 exact Nat.lt_trans (Nat.mod_lt _ (by decide +kernel)) (by decide +kernel)
theorem enc_times {a : List UInt8} (h : leN a < 2 ^ 255) : encS (crun bP.es (leN a) 255) = encB (pmul (leN a) bP) := encS_is (crun_full bP.es_is h)
theorem scl_Mul_num (l m : List UInt8) (w : World) (hl : l.length = 32) (hm : m.length = 32) (hG : GlobT w) :
  Calls Tryz.prog 56 #[.agg (l.map bval).toArray, .agg (m.map bval).toArray] w fun e w' => e = .returned (.agg ((nq ((leN l : Nat) * (leN m : Nat))).map bval).toArray) ∧ Below w.heap.size w w' := by
 have HSM := jh (leN_prod l m hl hm)
 have HXT := jh ((limF_can l (by omega)).ten (leN_ten l hl) (by omega))
 have HYT := jh ((limF_can m (by omega)).ten (leN_ten m hm) (by omega))
 have HL := jh hl
 have HM := jh hm
 have HG := jh hG
 have HIl : Hid ((Tryz.prog.info? 23).map (·.size) = some (l.map bval).length) := jh (zaf hl)
 have HIm : Hid ((Tryz.prog.info? 23).map (·.size) = some (m.map bval).length) := jh (zaf hm)
 have HCX := jh (limF_can l (by omega))
 have HCY := jh (limF_can m (by omega))
 have HB := jh (boxes3 w (l.map bval) (m.map bval) (ints .u8 (List.replicate 32 0)) 23 23 23)
 clear hl hm hG
 go_enter Tryz.func56, Tryz.ntmps56
 go_wp2_with fail
 change Code.wp _ _ _ _ (((w.alloc (.cells (l.map bval).toArray 23)).alloc (.cells (m.map bval).toArray 23)).alloc (.cells (ints .u8 (List.replicate 32 0)).toArray 23))
 generalize ((w.alloc (.cells (l.map bval).toArray 23)).alloc (.cells (m.map bval).toArray 23)).alloc (.cells (ints .u8 (List.replicate 32 0)).toArray 23) = w0 at *
 obtain ⟨h1, h2, h3, hE⟩ := HB.out
 obtain ⟨A, hA⟩ : ∃ A, A = w.heap.size := ⟨_, rfl⟩
 rw [← hA] at h1 h2 h3 ⊢
 have hA2 : w.heap.size ≤ A := by omega
 have hA3 : A + 1 + 1 < w0.heap.size := h3.lt
 have H1 := jh h1
 have H2 := jh h2
 have H3 := jh h3
 have HE : Hid (Ext w w0) := jh hE
 clear h1 h2 h3 hE HB hA
 refine zal 4 4 6 rfl (by kernel_rfl) (by kernel_rfl) (fun d v c a w h => by cases d <;> exact h) (by kernel_rfl) ?_
 refine zbj (.slice (some ⟨A, 0, none⟩) 32 32) (by rfl) (fun w hw => by go_simp) ?_
 simp only [Act.put, nrm]
 refine zah _ _ _ [.slice (some ⟨A, 0, none⟩) 32 32] (.agg (ints .i64 (limF l)).toArray) (by rfl) rfl Tryz.call98 rfl (fun w hw => lim_blk l (zaa H1.out hw) HL.out) ?_
 simp only [Act.put, nrm]
 refine zbj (.slice (some ⟨(A + 1), 0, none⟩) 32 32) (by rfl) (fun w hw => by go_simp) ?_
 simp only [Act.put, nrm]
 refine zah _ _ _ [.slice (some ⟨(A + 1), 0, none⟩) 32 32] (.agg (ints .i64 (limF m)).toArray) (by rfl) rfl Tryz.call98 rfl (fun w hw => lim_blk m (zaa H2.out hw) HM.out) ?_
 simp only [Act.put, nrm]
 refine zba (end_var2 (k := 4) 127 5 6 (.tmp 11) (.tmp 13) (ints .i64 (List.replicate 19 0)) (ints .i64 (limF l)) (ints .i64 (limF m)) rfl rfl rfl rfl (by kernel_rfl) (by kernel_rfl) (by kernel_rfl) (by kernel_rfl) (by kernel_rfl) (by kernel_rfl) (by kernel_rfl) (by kernel_rfl) (by kernel_rfl) (by kernel_rfl) rfl rfl rfl rfl rfl rfl rfl rfl (by decide) (fun w => by rw [Tryz.zeroValue127]; rfl) rfl rfl rfl rfl (by simp) (by simp) (fun p q => rfl) (fun p q => rfl) (by rw [zac, zac, zee]; rfl) (by rw [zac, zac, zee]; rfl) (by rw [zac, zee]; exact Tryz.arr127) (by rw [zac, zee]; exact Tryz.arr127) (zao _ _) (zao _ _) ?_)
 intro p q w1 hpq hp hq hb1 hb2 he1
 have HPQ := jh hpq
 have H3 := jh (zaa H3.out he1)
 have HE := jh (HE.out.trans he1)
 have HX := jh hb1
 have HY := jh hb2
 have hpA : A + 1 + 1 < p := by omega
 have hqA : A + 1 + 1 < q := by omega
 have hpw : p < w1.heap.size := hb1.lt
 have hqw : q < w1.heap.size := hb2.lt
 clear hpq hb1 hb2 he1 H1 H2
 clear hp hq
 go_wp2_with fail
 change Code.wp _ _ _ _ (w1.alloc (.cells (ints .i64 (List.replicate 19 0)).toArray 127))
 have HZ := jh (Blk.made w1 (ints .i64 (List.replicate 19 0)) 127)
 have H3 := jh (H3.out.alloc (.cells (ints .i64 (List.replicate 19 0)).toArray 127))
 have HX := jh (HX.out.alloc (.cells (ints .i64 (List.replicate 19 0)).toArray 127))
 have HY := jh (HY.out.alloc (.cells (ints .i64 (List.replicate 19 0)).toArray 127))
 have HE := jh (HE.out.trans (Ext.alloc w1 (.cells (ints .i64 (List.replicate 19 0)).toArray 127)))
 generalize w1.alloc (.cells (ints .i64 (List.replicate 19 0)).toArray 127) = w2 at *
 generalize w1.heap.size = D at *
 have HXL := jh HCX.out.len
 have HYL := jh HCY.out.len
 have HXR : Hid (∀ j, 0 ≤ (limF l).getD j 0 ∧ (limF l).getD j 0 ≤ 268435456) := jh (fun j => by have := HCX.out.range j; omega)
 have HYR : Hid (∀ j, 0 ≤ (limF m).getD j 0 ∧ (limF m).getD j 0 ≤ 268435456) := jh (fun j => by have := HCY.out.range j; omega)
 clear HCX HCY
 generalize limF l = x at *
 generalize limF m = y at *
 go_loopw [14] (fun i wr => ∃ (k : Nat), k ≤ 10 ∧ i = .int .i64 (k : Int) ∧ Blk wr D (ints .i64 (mAll x y k)) 127 ∧ Blk wr p (ints .i64 x) 127 ∧ Blk wr q (ints .i64 y) 127 ∧ Blk wr (A + 1 + 1) (ints .u8 (List.replicate 32 0)) 23 ∧ Ext w wr) (fun i _ => 10 - (intOf i).toNat)
 case atStart => exact ⟨0, by omega, rfl, HZ.out, HX.out, HY.out, H3.out, HE.out⟩
 case round =>
  clear HX HY HZ H3 HE
  obtain ⟨i, hi, rfl, hbz, hb1, hb2, hb3, hbel⟩ := hrel
  have i0' : (0 : Int) ≤ (i : Int) := Int.natCast_nonneg _
  by_cases hlt : i < 10
  ·have i1 : (i : Int) < 10 := by omega
   have HZ := jh hbz
   have HX := jh hb1
   have HY := jh hb2
   have H3 := jh hb3
   have HE := jh hbel
   clear hbz hb1 hb2 hb3 hbel
   have HPR := jh (mAll_range HXR.out HYR.out i (by omega))
   have HPL := jh (mAll_length x y i)
   have HNX : Hid (mAll x y (i + 1) = mRow (mAll x y i) x y i 10) := jh rfl
   generalize mAll x y i = z at *
   go_wp2_with fail
   obtain ⟨wo, rfl⟩ : ∃ wo : World, wo = wr := ⟨_, rfl⟩
   go_loopw [17] (fun j wr => ∃ (k : Nat), k ≤ 10 ∧ j = .int .i64 (k : Int) ∧ Blk wr D (ints .i64 (mRow z x y i k)) 127 ∧ Blk wr p (ints .i64 x) 127 ∧ Blk wr q (ints .i64 y) 127 ∧ Blk wr (A + 1 + 1) (ints .u8 (List.replicate 32 0)) 23 ∧ Ext w wr) (fun j _ => 10 - (intOf j).toNat)
   case atStart => exact ⟨0, by omega, rfl, HZ.out, HX.out, HY.out, H3.out, HE.out⟩
   case round =>
    clear HX HY HZ H3 HE
    obtain ⟨j, hj, rfl, hbz, hb1, hb2, hb3, hbel⟩ := hrel
    have j0' : (0 : Int) ≤ (j : Int) := Int.natCast_nonneg _
    by_cases hlj : j < 10
    ·have j1 : (j : Int) < 10 := by omega
     have hxl := HXL.out
     have hyl := HYL.out
     have hzl := zds z x y i j
     rw [HPL.out] at hzl
     have e1 := hb1.cell i
     rw [zav (by omega)] at e1
     have e2 := hb2.cell j
     rw [zav (by omega)] at e2
     have e3 := hbz.cell (i + j)
     rw [zav (by omega)] at e3
     have f3 := hbz.free (i + j)
     have q1 := HXR.out i
     have q2 := HYR.out j
     have q3 := mRow_range hlt HPL.out HPR.out (HXR.out i) HYR.out j (by omega) (i + j)
     have hst : mRow z x y i (j + 1) = (mRow z x y i j).set (i + j) ((mRow z x y i j).getD (i + j) 0 + x.getD i 0 * y.getD j 0) := rfl
     have HST := jh hst
     have q4 := mul_range q1.1 q1.2 q2.1 q2.2
     generalize (mRow z x y i j).getD (i + j) 0 = a at *
     generalize x.getD i 0 = u at *
     generalize y.getD j 0 = t at *
     obtain ⟨ij, hij⟩ : ∃ ij : Nat, ij = i + j := ⟨_, rfl⟩
     rw [← hij] at e3 f3
     have hij2 : (i : Int) + (j : Int) = (ij : Int) := by omega
     have ij1 : (ij : Int) < 19 := by omega
     have HIJ := jh hij
     have HZ := jh hbz
     have HX := jh hb1
     have HY := jh hb2
     have H3 := jh hb3
     have HE := jh hbel
     clear hst hbz hb1 hb2 hb3 hbel hxl hyl hzl hij
     go_wp2_with fail
     go_region
     go_wp2_with fail
     go_roundw
     case rel =>
      refine ⟨j + 1, by omega, by go_num, ?_, (HX.out.far (by simp; omega) _).drewN 1, (HY.out.far (by simp; omega) _).drewN 1, (H3.out.far (by simp; omega) _).drewN 1, (Below.setCell HE.out (by simp; omega) _).drew⟩
      rw [HST.out, ← zbz, ← HIJ.out]
      exact (HZ.out.set ij _).drewN 1
     case measure => simp [intOf]; omega
    ·have hj' : j = 10 := by omega
     subst hj'
     rw [← HNX.out] at hbz
     have HZ := jh hbz
     have HX := jh hb1
     have HY := jh hb2
     have H3 := jh hb3
     have HE := jh hbel
     clear hbz hb1 hb2 hb3 hbel
     go_wp2_with fail
     go_roundw
     case rel => exact ⟨i + 1, by omega, by go_num, HZ.out, HX.out, HY.out, H3.out, HE.out⟩
     case measure => simp [intOf]; omega
  ·have hi' : i = 10 := by omega
   subst hi'
   have hzl := mAll_length x y 10
   have hval := mAll_val x y HXL.out HYL.out 10 (by omega)
   rw [HXT.out, HYT.out] at hval
   have HNM := jh (fun w hw => scl_numOf_any (mAll x y 10) ((leN l : Nat) * (leN m : Nat)) 720575940379279360 w hw hzl (by omega) (by omega) (fun j hj => by
    have := mAll_range HXR.out HYR.out 10 (by omega) j
    omega) hval (Int.mul_nonneg (by omega) (by omega)) HSM.out)
   have hi1 : Hid ((Tryz.prog.info? 127).map (·.size) = some (ints .i64 (mAll x y 10)).length) := jh (by rw [zac, hzl]; exact Tryz.arr127)
   have HZ := jh hbz
   have H3 := jh hb3
   have HE := jh hbel
   clear hbz hb1 hb2 hb3 hbel hzl hval
   go_wp2_with (refine zae rfl _ _ rfl D rfl _ _ _ _ HZ.out Tryz.underlying127 hi1.out ?_)
   refine (HNM.out _ (HG.out.ext HE.out)).mono ?_
   rintro e w5 ⟨rfl, hb5⟩
   have H3 := jh (zaa H3.out hb5)
   have HE := jh (HE.out.trans hb5)
   have hi2 : Hid ((Tryz.prog.info? 23).map (·.size) = some ((nq ((leN l : Nat) * (leN m : Nat))).map bval).length) := jh (zaf (zcc _))
   have hl2 : Hid (((nq ((leN l : Nat) * (leN m : Nat))).map bval).length = (ints .u8 (List.replicate 32 0)).length) := jh (by rw [List.length_map, zcc]; rfl)
   clear hb5 HNM
   go_wp2_with (refine zab rfl _ _ _ rfl (A + 1 + 1) _ rfl rfl _ _ H3.out hl2.out hi2.out (zaj _) ?_; intro w7 hb7 hg7)
   exact bodyPost_ret (v := .agg ((nq ((leN l : Nat) * (leN m : Nat))).map bval).toArray) (zay (by rfl) _ (A + 1 + 1) _ _ _ (by rfl) hb7 Tryz.underlying23 rfl hi2.out) rfl ⟨rfl, zad HE.out hg7 (by omega)⟩
theorem grown_own (w : World) (base n cap : Nat) (e : TypeId) (cur : Array Value) (hb : base ≤ w.heap.size) (hc : cap ≤ maxLen) (hs : cur.size = cap) : (w.alloc (.cells cur e)).ownsRow base e 1 (.slice (some ⟨w.heap.size, 0, none⟩) 0 cap) 0 [] :=
 ⟨rfl, Or.inr ⟨w.heap.size, cap, cur, rfl, hb, heap_alloc_new w _, Nat.zero_le _, hc, by omega, rfl⟩⟩
theorem stdGrow_nil (n : Nat) (w : World) (hn : n ≤ 1099511627776) :
  Calls Tryz.prog 74 #[.slice none 0 0, .int .i64 (n : Int)] w fun e w' => ∃ x, e = .returned x ∧ w'.ownsRow w.heap.size 5 1 x 0 [] ∧ Below w.heap.size w w' := by
 obtain ⟨i0, hi, hz0, hz1, hz2⟩ := info_parts Tryz.info5
 have h0 : (0 : Int) ≤ (n : Int) := Int.natCast_nonneg _
 have HNB := jh hn
 go_enter Tryz.func74, Tryz.ntmps74
 rcases Nat.eq_zero_or_pos n with rfl | hp
 ·clear hi hz0 hz1 hz2
  go_wp2_with fail
  go_ret
  exact ⟨_, rfl, World.ownsRow_nil _ _ _ _, Below.refl _ _⟩
 ·have hp' : (0 : Int) < (n : Int) := by omega
  have HR := jh (Lib.run_append_nil_zeros (P := Tryz.prog) w 46 3 0 5 i0 (.int .u8 0) .i64 .i64 Tryz.underlying46 rfl hi hz0 n hp (by rw [hz1]; decide) (by omega) (by rw [hz2]; omega))
  have HG : Hid (grownCap w n 0 5 ≤ maxLen) := jh (grownCap_le_maxLen w n 0 _ (by unfold maxLen; omega))
  have HG2 : Hid (n ≤ grownCap w n 0 5) := jh (grownCap_ge w n 0 _)
  have HSZ : Hid ((Builtin.zeroCells (Value.cells (.int .u8 0)) n ++ Builtin.zeroCells (Value.cells (.int .u8 0)) (grownCap w n 0 5 - n)).size = grownCap w n 0 5) := jh (by
   rw [Array.size_append, size_zeroCells, size_zeroCells]
   have := HG2.out
   simp [Value.cells]
   omega)
  clear hi hz0 hz1 hz2
  generalize Builtin.zeroCells (Value.cells (.int .u8 0)) n ++ Builtin.zeroCells (Value.cells (.int .u8 0)) (grownCap w n 0 5 - n) = cur at *
  generalize grownCap w n 0 5 = cap at *
  have hc0 : (0 : Int) ≤ (cap : Int) := Int.natCast_nonneg _
  go_wp2_with (at_builtin; refine Lib.wpList_append_run _ rfl _ _ _ _ rfl _ _ rfl rfl _ _ HR.out ?_)
  go_ret
  exact ⟨_, rfl, grown_own w.drew _ n cap _ cur (Nat.le_refl _) HG.out HSZ.out, zfc (Ext.alloc w _) 1⟩
theorem cat_succ (ls : List (List UInt8)) (k : Nat) (l : List UInt8) (h : ls[k]? = some l) : (ls.take (k + 1)).flatten = (ls.take k).flatten ++ l := by
 have hk : k < ls.length := by
  rcases Nat.lt_or_ge k ls.length with h' | h'
  ·exact h'
  ·rw [List.getElem?_eq_none h'] at h; cases h
 rw [List.take_succ_eq_append_getElem hk, List.flatten_append]
 rw [List.getElem?_eq_getElem hk] at h
 cases h
 simp
theorem cat_part (ls : List (List UInt8)) (k : Nat) : (ls.take k).flatten.length ≤ ls.flatten.length := by
 have h : ls.flatten = (ls.take k).flatten ++ (ls.drop k).flatten := by rw [← List.flatten_append, List.take_append_drop]
 rw [h, List.length_append]
 omega
theorem cat_all (ls : List (List UInt8)) : (ls.take ls.length).flatten = ls.flatten := by rw [List.take_length]
theorem stdConcat_any (v : Value) (ls : List (List UInt8)) (w : World) (hv : RowB w v ls) (hb : ls.flatten.length ≤ 1099511627776) :
  Calls Tryz.prog 40 #[v] w fun e w' => ∃ x, e = .returned x ∧ w'.ownsRow w.heap.size 5 1 x ls.flatten.length (ls.flatten.map bval) ∧ Below w.heap.size w w' := by
 obtain ⟨i0, hi, hz0, hz1, hz2⟩ := info_parts Tryz.info5
 obtain ⟨vals, hr, hlen, hx⟩ := hv
 obtain ⟨a, cap, rfl, r1, r2, r3, r4⟩ := id hr
 unfold maxLen at r2
 rw [hlen] at r1 ⊢
 have HI0 := jh hi
 have HZ0 := jh hz0
 have HZ1 := jh hz1
 have HZ2 := jh hz2
 have HX := jh hx
 have HC := jh r4
 have HLN := jh hlen
 have HB := jh hb
 clear hr hx r3 r4 hb hlen hi hz0 hz1 hz2
 go_enter Tryz.func40, Tryz.ntmps40
 go_wp2_with fail
 go_loop [3, 11] (fun sv iv => ∃ (k : Nat), k ≤ ls.length ∧ iv = .int .i64 (k : Int) ∧ sv = .int .i64 ((ls.take k).flatten.length : Int)) (fun _ iv => ls.length - (intOf iv).toNat)
 case atStart => exact ⟨0, by omega, rfl, rfl⟩
 case round =>
  obtain ⟨k, hk, rfl, rfl⟩ := hrel
  have k0 : (0 : Int) ≤ (k : Int) := Int.natCast_nonneg _
  by_cases hlk : k < ls.length
  ·have k1 : (k : Int) < (ls.length : Int) := by omega
   obtain ⟨b', off, rfl, hbs, hcell⟩ := HC.out (by intro e; have h := congrArg List.length e; rw [HLN.out] at h; simp only [List.length_nil] at h; omega)
   obtain ⟨xv, hxv⟩ : ∃ x, vals[k]? = some x := ⟨_, List.getElem?_eq_getElem (by rw [HLN.out]; exact hlk)⟩
   obtain ⟨lk, hlk2⟩ : ∃ x, ls[k]? = some x := ⟨_, List.getElem?_eq_getElem hlk⟩
   obtain ⟨ax, cx, hxx, _⟩ := HX.out k xv lk hxv hlk2
   rw [List.length_map] at hxx
   have hft := cat_succ ls k lk hlk2
   have hfl := cat_part ls (k + 1)
   rw [hft, List.length_append] at hfl
   have HFT : Hid ((ls.take (k + 1)).flatten.length = (ls.take k).flatten.length + lk.length) := jh (by rw [hft, List.length_append])
   have c0 : w.cell? ⟨b', off + k, none⟩ = some xv := by
    have h := hcell k (by rw [HLN.out]; exact hlk)
    rw [hxv] at h
    exact h
   subst hxx
   have hB := HB.out
   generalize (ls.take k).flatten.length = p at *
   have hpl : (p : Int) + (lk.length : Int) ≤ 1099511627776 := by omega
   have hp0 : (0 : Int) ≤ (p : Int) := Int.natCast_nonneg _
   have hl0 : (0 : Int) ≤ (lk.length : Int) := Int.natCast_nonneg _
   have hlk0 : (0 : Int) ≤ (p : Int) + (lk.length : Int) := by omega
   clear hcell hxv hlk2 hft hfl
   go_wp2_with fail
   go_round
   case rel =>
    refine ⟨k + 1, by omega, by go_num, ?_⟩
    rw [HFT.out]
    rfl
   case measure => simp [intOf]; omega
  ·have hk2 : (ls.length : Int) ≤ (k : Int) := by omega
   obtain rfl : k = ls.length := by omega
   rw [cat_all]
   obtain ⟨N, hN⟩ : ∃ N, N = ls.flatten.length := ⟨_, rfl⟩
   have HNB : Hid (N ≤ 1099511627776) := jh (by rw [hN]; exact HB.out)
   rw [← hN]
   have n0 : (0 : Int) ≤ (N : Int) := Int.natCast_nonneg _
   clear hN
   go_wp2_with fail
   refine (stdGrow_nil N w HNB.out).mono ?_
   rintro e w1 ⟨x1, rfl, ho1, hb1⟩
   have HNIL := jh ho1
   have HE1 : Hid (Ext w w1) := jh hb1
   clear ho1 hb1
   go_wp2_with fail
   go_loopw [6, 27] (fun x iv wr => ∃ (k : Nat), k ≤ ls.length ∧ iv = .int .i64 (k : Int) ∧ wr.ownsRow w.heap.size 5 1 x (ls.take k).flatten.length ((ls.take k).flatten.map bval) ∧ Ext w wr) (fun _ iv _ => ls.length - (intOf iv).toNat)
   case atStart => exact ⟨0, by omega, rfl, HNIL.out, HE1.out⟩
   case round =>
    clear HNIL HE1
    obtain ⟨k, hk, rfl, ho, hE⟩ := hrel
    have k0 : (0 : Int) ≤ (k : Int) := Int.natCast_nonneg _
    have HO := jh ho
    have HE := jh hE
    have HS := jh hE.size
    clear ho hE
    by_cases hlk : k < ls.length
    ·have k1 : (k : Int) < (ls.length : Int) := by omega
     obtain ⟨b', off, rfl, hbs, hcell⟩ := HC.out (by intro e; have h := congrArg List.length e; rw [HLN.out] at h; simp only [List.length_nil] at h; omega)
     obtain ⟨xv, hxv⟩ : ∃ x, vals[k]? = some x := ⟨_, List.getElem?_eq_getElem (by rw [HLN.out]; exact hlk)⟩
     obtain ⟨lk, hlk2⟩ : ∃ x, ls[k]? = some x := ⟨_, List.getElem?_eq_getElem hlk⟩
     have HXR := jh ((HX.out k xv lk hxv hlk2).below HE.out)
     have hft := cat_succ ls k lk hlk2
     have hfl := cat_part ls (k + 1)
     rw [hft, List.length_append] at hfl
     have HFT := jh hft
     have c0 : wr.cell? ⟨b', off + k, none⟩ = some xv := by
      have h := hcell k (by rw [HLN.out]; exact hlk)
      rw [hxv] at h
      rw [← h]
      exact HE.out.cell (p := ⟨b', off + k, none⟩) hbs
     have HFL : Hid ((ls.take k).flatten.length + (lk.map bval).length ≤ 1099511627776) := jh (by rw [List.length_map]; have := HB.out; omega)
     clear hcell hxv hlk2 hft hfl
     go_wp2_with (at_builtin; refine zas rfl _ _ 46 rfl w.heap.size 5 i0 (.int .u8 0) 1 Tryz.underlying46 HI0.out HZ0.out HZ1.out HZ2.out rfl _ _ _ rfl HO.out rfl HXR.out (zaj _) (by have := HFL.out; unfold maxLen; omega) (by have := HFL.out; omega) HS.out ?_; intro v3 w3 hown3 hgrow3)
     go_roundw
     case rel =>
      refine ⟨k + 1, by omega, by go_num, ?_, zfp HE.out HO.out (Nat.le_refl _) hgrow3⟩
      rw [HFT.out, List.map_append, List.length_append]
      rw [List.length_map] at hown3
      exact hown3
     case measure => simp [intOf]; omega
    ·have hk2 : (ls.length : Int) ≤ (k : Int) := by omega
     obtain rfl : k = ls.length := by omega
     rw [cat_all] at HO
     go_wp2_with fail
     go_ret
     exact ⟨_, rfl, HO.out, HE.out⟩
theorem dig_one (v : Value) (ls : List (List UInt8)) (l : List UInt8) (x : Value) (m : List UInt8) (w : World) (hv : RowB w v ls) (hx : Row1 w x (l.map bval)) (hm : l ++ ls.flatten = m) (hl : m.length ≤ 1099511627776) (hc : ls.length ≤ 1000000) (hR : GlobRQ w) (hT : GlobT w) :
  Calls Tryz.prog 54 #[v, .slice (some ⟨w.heap.size, 0, none⟩) 1 1] (w.alloc (.cells #[x] 46)) fun e w' => e = .returned (.agg ((wideB m).map bval).toArray) ∧ Below w.heap.size w w' := by
 have he := Ext.alloc w (.cells #[x] 46)
 have h := cdigested_f v _ ls [l] m _ (hv.below he) (rowB1 (Row1.made w #[x] 46 _ 1 [x] rfl rfl rfl (by unfold maxLen; omega)) (hx.below he)) (by simpa using hm) hl (by simp; omega) (hR.ext he) (hT.ext he)
 refine h.mono ?_
 rintro e w' ⟨h1, h2⟩
 exact ⟨h1, he.trans h2⟩
theorem dig_two (v a : Value) (ls : List (List UInt8)) (l k m : List UInt8) (w : World) (hv : RowB w v ls) (ha : RowB w a [l, k]) (hm : l ++ (k ++ ls.flatten) = m) (hl : m.length ≤ 1099511627776) (hc : ls.length ≤ 1000000) (hR : GlobRQ w) (hT : GlobT w) :
  Calls Tryz.prog 54 #[v, a] w fun e w' => e = .returned (.agg ((wideB m).map bval).toArray) ∧ Below w.heap.size w w' :=
 cdigested_f v a ls [l, k] m w hv ha (by simpa using hm) hl (by simp; omega) hR hT
theorem cat_two (x y : Value) (l m : List UInt8) (w : World) (hx : Row1 w x (l.map bval)) (hy : Row1 w y (m.map bval)) (hl : (l ++ m).length ≤ 1099511627776) :
  Calls Tryz.prog 40 #[.slice (some ⟨w.heap.size, 0, none⟩) 2 2] (w.alloc (.cells #[x, y] 46)) fun e w' => ∃ z, e = .returned z ∧ Row1 w' z ((l ++ m).map bval) ∧ Below w.heap.size w w' := by
 have he := Ext.alloc w (.cells #[x, y] 46)
 have h := stdConcat_any _ [l, m] _ (rowB2 (Row1.made w #[x, y] 46 _ 2 [x, y] rfl rfl rfl (by unfold maxLen; omega)) (hx.below he) (hy.below he)) (by simpa using hl)
 refine h.mono fun e w' hh => ?_
 obtain ⟨z, h1, h2, h3⟩ := hh
 rw [show [l, m].flatten = l ++ m from by simp] at h2
 exact ⟨z, h1, Row1.of_own h2, he.trans h3⟩
theorem wp_pure {P : Program} {o : Oper} {a : Act} {w : World} {K : Act → World → Prop} {Q : Exit → Act → World → Prop} (d : Option Nat) (v : Value) (hd : o.dst = d) (h : (execOp a.eval o).run P w = .ok (.value v) w) (next : K (a.put d v) w) : o.wp P a w K Q := by
 subst hd
 unfold Oper.wp
 rw [h]
 exact next
theorem edS_of {s m : List UInt8} : nq (((leN (edNum s m) : Nat) : Int) + ((leN (nq (((leN (wideB (edR s m ++ (edPub s ++ m))) : Nat) : Int) * ((leN (secA s) : Nat) : Int))) : Nat) : Int)) = edS s m := by
 unfold edS
 rfl
theorem CSign_num (sd : List UInt8) (v : Value) (ls : List (List UInt8)) (w : World) (hs : sd.length = 32) (hv : RowB w v ls) (hl : ls.flatten.length ≤ 1000000000000) (hc : ls.length ≤ 1000000) (hR : GlobRQ w) (hT : GlobT w) (hG : GlobC w) : Calls Tryz.prog 28 #[.agg (sd.map bval).toArray, v] w fun e w' => e = .returned (.agg ((edSign sd ls.flatten).map bval).toArray) ∧ Below w.heap.size w w' := by
 have HSL := jh hs
 clear hs
 obtain ⟨m, hmm⟩ : ∃ m, m = ls.flatten := ⟨_, rfl⟩
 have HMM := jh hmm.symm
 rw [← hmm] at hl
 have HML := jh hl
 have HCT := jh hc
 have HVB := jh hv
 have HGT := jh hT
 have HGR := jh hR
 obtain ⟨bA, bC, hbf, _⟩ := rowB_form hv
 obtain ⟨bL, hbL⟩ : ∃ n, n = ls.length := ⟨_, rfl⟩
 rw [← hbL] at hbf
 subst hbf
 obtain ⟨iq, hq0, hq1, hq2⟩ := info_two (P := Tryz.prog) (t := 46) (z := .slice none 0 0) (n := 1) (by kernel_rfl)
 have HQ0 := jh hq0
 have HQ1 := jh hq1
 have HQ2 := jh hq2
 clear hq0 hq1 hq2 hv hl hc hT hR hbL
 have HGC := jh hG
 clear hG
 have HB := jh (boxes2 w (sd.map bval) (ints .u8 (List.replicate 64 0)) 23 26)
 go_enter Tryz.func28, Tryz.ntmps28
 go_upto_region 1 with (fail)
 obtain ⟨H1, H2, HE⟩ := HB.out
 change Code.wp _ _ _ _ (World.alloc (World.alloc w (.cells (sd.map bval).toArray 23)) (.cells (ints .u8 (List.replicate 64 0)).toArray 26))
 generalize (World.alloc (World.alloc w (.cells (sd.map bval).toArray 23)) (.cells (ints .u8 (List.replicate 64 0)).toArray 26)) = wa at *
 obtain ⟨A, hA⟩ : ∃ A, A = w.heap.size := ⟨_, rfl⟩
 have HAW : Hid (w.heap.size ≤ A) := jh (by omega)
 rw [← hA] at H1 H2 ⊢
 have H1 := jh H1
 have H2 := jh H2
 have HE : Hid (Ext w wa) := jh HE
 clear hA HB
 go_wp2_with (first | (refine wpList_load_mid rfl _ _ rfl A 0 rfl _ _ (H1.out.range) Tryz.underlying23 rfl (zaf HSL.out) ?_))
 refine (csecrets_f sd _ HSL.out (HGR.out.ext HE.out)).mono ?_
 rintro e w5 ⟨rfl, hb⟩
 have H1 := jh (zaa H1.out hb)
 have H2 := jh (zaa H2.out hb)
 have HE := jh (HE.out.trans hb)
 clear hb
 have HAL := jh (secA_length sd)
 have HHL := jh (secH_length sd)
 have HLA := jh (secA_lt sd)
 obtain ⟨av, hav⟩ : ∃ k, k = secA sd := ⟨_, rfl⟩
 obtain ⟨hv, hhv⟩ : ∃ k, k = secH sd := ⟨_, rfl⟩
 rw [← hav] at HAL HLA
 rw [← hhv] at HHL
 rw [← hav, ← hhv]
 have HAV := jh hav
 have HHV := jh hhv
 clear hav hhv
 have HB2 := jh (boxes2 w5 (ints .u8 (List.replicate 32 0)) (ints .u8 (List.replicate 32 0)) 23 23)
 have HL1 : Hid ((av.map bval).length = (ints .u8 (List.replicate 32 0)).length) := jh (by rw [List.length_map, HAL.out]; rfl)
 have HL2 : Hid ((hv.map bval).length = (ints .u8 (List.replicate 32 0)).length) := jh (by rw [List.length_map, HHL.out]; rfl)
 have HLT := jh (H2.out.lt)
 go_upto_region 2 with (first | (refine zab rfl _ _ _ rfl w5.heap.size (av.map bval) rfl rfl _ _ HB2.out.1 HL1.out (zaf HAL.out) (zaj _) ?_; intro w6 hs1 hg1) | (refine zab rfl _ _ _ rfl (w5.heap.size + 1) (hv.map bval) rfl rfl _ _ (HB2.out.2.1.grown hg1 (by simp)) HL2.out (zaf HHL.out) (zaj _) ?_; intro w7 hs2 hg2))
 have HX := jh (zad (zad HB2.out.2.2 hg1 (Nat.le_refl _)) hg2 (Nat.le_succ _))
 have HSA := jh (hs1.grown hg2 (by simp))
 have HSH := jh hs2
 obtain ⟨pa, hT⟩ : ∃ T, T = w5.heap.size := ⟨_, rfl⟩
 rw [← hT] at HSA HSH HLT ⊢
 clear hT
 have H1 := jh (zaa H1.out HX.out)
 have H2 := jh (zaa H2.out HX.out)
 have HE := jh (HE.out.trans HX.out)
 clear hs1 hs2 hg1 hg2 HX HB2 HL1 HL2
 generalize w7 = wd at *
 go_wp2_with fail
 refine zal 4 2 5 rfl (by kernel_rfl) (by kernel_rfl) (fun d v c a w h => by cases d <;> exact h) (by kernel_rfl) ?_
 refine zai _ _ pa 0 (av.map bval) _ (by rfl) rfl rfl (fun w hw => (zaa HSA.out hw).range) Tryz.underlying23 rfl (zaf HAL.out) ?_
 simp only [Act.put, nrm]
 refine zah _ _ _ [] (.agg (ptF bP.es).toArray) (by rfl) rfl Tryz.call53 rfl (fun w hw => cbase_f w (HGC.out.ext (HE.out.trans hw))) ?_
 simp only [Act.put, nrm]
 refine zah _ _ _ [.agg (av.map bval).toArray, .agg (ptF bP.es).toArray] (.agg (ptF (crun bP.es (leN av) 255)).toArray) (by rfl) rfl Tryz.call52 rfl (fun w hw => ctimes_f w av bP.es HAL.out (HGC.out.ext (HE.out.trans hw))) ?_
 simp only [Act.put, nrm]
 refine zah _ _ _ [.agg (ptF (crun bP.es (leN av) 255)).toArray] (.agg ((encB (pmul (leN av) bP)).map bval).toArray) (by rfl) rfl Tryz.call51 rfl (fun w hw => (by have h := cencoded_f w (crun bP.es (leN av) 255); rwa [enc_times HLA.out] at h)) ?_
 simp only [Act.put, nrm]
 refine zba (zfb (k := 4) _ 7 (.tmp 20) (ints .u8 (List.replicate 32 0)) ((encB (pmul (leN av) bP)).map bval) rfl rfl (by kernel_rfl) (by kernel_rfl) (by kernel_rfl) (by kernel_rfl) (by kernel_rfl) rfl rfl rfl rfl (fun w => by rw [Tryz.zeroValue23]; rfl) rfl (by simp) (fun p => rfl) (by rw [List.length_map, (zcs _)]; rfl) (zaf (zcs _)) (zaj _) (fun pk wk hp hb he => ?_))
 try simp only [Act.put, nrm]
 have H1 := jh (zaa H1.out he)
 have H2 := jh (zaa H2.out he)
 have HSA := jh (zaa HSA.out he)
 have HSH := jh (zaa HSH.out he)
 have HE := jh (HE.out.trans he)
 have HPk := jh hp
 clear he hp
 have HVk := jh hb
 clear hb
 obtain ⟨kb, hkb⟩ : ∃ k, k = encB (pmul (leN av) bP) := ⟨_, rfl⟩
 rw [← hkb] at HVk
 have HNkb := jh hkb
 have HLkb : Hid (kb.length = 32) := jh (by rw [hkb]; exact zcs _)
 clear hkb
 go_wp2_with fail
 refine (dig_one _ ls hv _ (hv ++ m) _ (HVB.out.below HE.out) (zcm (n := 32) HSH.out (by rw [List.length_map]; exact HHL.out) (by unfold maxLen; omega)) (by rw [HMM.out]) (by rw [List.length_append, HHL.out]; have := HML.out; omega) HCT.out (HGR.out.ext HE.out) (HGT.out.ext HE.out)).mono ?_
 rintro e w8 ⟨rfl, hb⟩
 have H1 := jh (zaa H1.out hb)
 have H2 := jh (zaa H2.out hb)
 have HSA := jh (zaa HSA.out hb)
 have HSH := jh (zaa HSH.out hb)
 have HVk := jh (zaa HVk.out hb)
 have HE := jh (HE.out.trans hb)
 clear hb
 have HOL := jh (zbw (hv ++ m))
 have HOT := jh (wideB_lt (hv ++ m))
 obtain ⟨ob, hob⟩ : ∃ k, k = wideB (hv ++ m) := ⟨_, rfl⟩
 rw [← hob] at HOL HOT ⊢
 have HOB := jh hob
 clear hob
 have HZ := jh (Blk.made w8 (ints .u8 (List.replicate 32 0)) 23)
 have HEA := jh (Ext.alloc w8 (.cells (ints .u8 (List.replicate 32 0)).toArray 23))
 have HL : Hid ((ob.map bval).length = (ints .u8 (List.replicate 32 0)).length) := jh (by rw [List.length_map, HOL.out]; rfl)
 go_upto_region 4 with (refine zab rfl _ _ _ rfl w8.heap.size (ob.map bval) rfl rfl _ _ HZ.out HL.out (zaf HOL.out) (zaj _) ?_; intro w7 hb hg)
 have HX := jh (zad HEA.out hg (Nat.le_refl _))
 obtain ⟨po, hT⟩ : ∃ T, T = w8.heap.size := ⟨_, rfl⟩
 rw [← hT] at hb ⊢
 clear hT
 have H1 := jh (zaa H1.out HX.out)
 have H2 := jh (zaa H2.out HX.out)
 have HSA := jh (zaa HSA.out HX.out)
 have HSH := jh (zaa HSH.out HX.out)
 have HVk := jh (zaa HVk.out HX.out)
 have HE := jh (HE.out.trans HX.out)
 have HVo := jh hb
 clear hb hg HX HZ HEA HL
 generalize w7 = wo at *
 go_wp2_with fail
 refine zal 4 2 5 rfl (by kernel_rfl) (by kernel_rfl) (fun d v c a w h => by cases d <;> exact h) (by kernel_rfl) ?_
 refine zai _ _ po 0 (ob.map bval) _ (by rfl) rfl rfl (fun w hw => (zaa HVo.out hw).range) Tryz.underlying23 rfl (zaf HOL.out) ?_
 simp only [Act.put, nrm]
 refine zah _ _ _ [] (.agg (ptF bP.es).toArray) (by rfl) rfl Tryz.call53 rfl (fun w hw => cbase_f w (HGC.out.ext (HE.out.trans hw))) ?_
 simp only [Act.put, nrm]
 refine zah _ _ _ [.agg (ob.map bval).toArray, .agg (ptF bP.es).toArray] (.agg (ptF (crun bP.es (leN ob) 255)).toArray) (by rfl) rfl Tryz.call52 rfl (fun w hw => ctimes_f w ob bP.es HOL.out (HGC.out.ext (HE.out.trans hw))) ?_
 simp only [Act.put, nrm]
 refine zah _ _ _ [.agg (ptF (crun bP.es (leN ob) 255)).toArray] (.agg ((encB (pmul (leN ob) bP)).map bval).toArray) (by rfl) rfl Tryz.call51 rfl (fun w hw => (by have h := cencoded_f w (crun bP.es (leN ob) 255); rwa [enc_times HOT.out] at h)) ?_
 simp only [Act.put, nrm]
 refine zba (zfb (k := 4) _ 9 (.tmp 28) (ints .u8 (List.replicate 32 0)) ((encB (pmul (leN ob) bP)).map bval) rfl rfl (by kernel_rfl) (by kernel_rfl) (by kernel_rfl) (by kernel_rfl) (by kernel_rfl) rfl rfl rfl rfl (fun w => by rw [Tryz.zeroValue23]; rfl) rfl (by simp) (fun p => rfl) (by rw [List.length_map, (zcs _)]; rfl) (zaf (zcs _)) (zaj _) (fun pr wr hp hb he => ?_))
 try simp only [Act.put, nrm]
 have H1 := jh (zaa H1.out he)
 have H2 := jh (zaa H2.out he)
 have HSA := jh (zaa HSA.out he)
 have HSH := jh (zaa HSH.out he)
 have HVk := jh (zaa HVk.out he)
 have HVo := jh (zaa HVo.out he)
 have HE := jh (HE.out.trans he)
 have HPr := jh hp
 clear he hp
 have HVr := jh hb
 clear hb
 obtain ⟨rb, hrb⟩ : ∃ k, k = encB (pmul (leN ob) bP) := ⟨_, rfl⟩
 rw [← hrb] at HVr
 have HNrb := jh hrb
 have HLrb : Hid (rb.length = 32) := jh (by rw [hrb]; exact zcs _)
 clear hrb
 go_wp2_with fail
 go_cut [10] from 29 to 33 (fun u10 wq => ∃ gq, u10 = .pointer (some ⟨gq, 0, none⟩) ∧ wr.heap.size ≤ gq ∧ Blk wq gq ((wideB (rb ++ (kb ++ m))).map bval) 23 ∧ Ext wr wq)
 case first =>
  have B0 : Ext wr wr.drew := Ext.drew _
  refine wp_region_held_drew (S := fun w' => Ext wr w') (by kernel_rfl) B0 (fun hHeld => ?_)
  refine tke 0 (.slice bA bL bC) rfl (zcb _ (.slice bA bL bC) (by rfl) rfl rfl) hHeld ?_
  simp only [Act.put, nrm]
  refine tke 1 (.slice (some ⟨pr, 0, none⟩) 32 32) rfl (zew _ _ _ _ (.pointer (some ⟨pr, 0, none⟩)) (.slice (some ⟨pr, 0, none⟩) 32 32) none none (by rfl) rfl rfl rfl rfl (fun w => cut_whole Tryz.underlying23 Tryz.sizeOf5 (by omega) _ w)) hHeld ?_
  simp only [Act.put, nrm]
  refine tke 2 (.slice (some ⟨pk, 0, none⟩) 32 32) rfl (zew _ _ _ _ (.pointer (some ⟨pk, 0, none⟩)) (.slice (some ⟨pk, 0, none⟩) 32 32) none none (by rfl) rfl rfl rfl rfl (fun w => cut_whole Tryz.underlying23 Tryz.sizeOf5 (by omega) _ w)) hHeld ?_
  simp only [Act.put, nrm]
  refine wpAnyH_ready (rs := [3, 5]) (by kernel_rfl) (by simp) (AllReadyH.cons rfl (fun K hK => ?_) (AllReadyH.cons rfl (fun K hK => ?_) AllReadyH.nil))
  ·refine zan (by rfl) ?_
   refine zbv (some 32) _ _ _ _ rfl rfl #[.slice (some ⟨pr, 0, none⟩) 32 32, .slice (some ⟨pk, 0, none⟩) 32 32] iq (.slice none 0 0) Tryz.underlying88 HQ0.out HQ1.out (by rw [HQ2.out]; decide) (by rw [HQ2.out]; decide) (by rw [HQ2.out]; kernel_rfl) ?_
   obtain ⟨m1, hm1⟩ : ∃ wNew, wNew = World.alloc wr.drew (.cells #[.slice (some ⟨pr, 0, none⟩) 32 32, .slice (some ⟨pk, 0, none⟩) 32 32] 46) := ⟨_, rfl⟩
   rw [← hm1]
   have b1 : Ext wr.drew m1 := by rw [hm1]; exact Ext.alloc _ _
   obtain ⟨g1, hg1⟩ : ∃ gNew, gNew = (wr.drew).heap.size := ⟨_, rfl⟩
   rw [← hg1]
   have r1 : Row1 m1 (.slice (some ⟨g1, 0, none⟩) 2 2) [.slice (some ⟨pr, 0, none⟩) 32 32, .slice (some ⟨pk, 0, none⟩) 32 32] := by rw [hm1, hg1]; exact Row1.made _ _ _ _ _ _ rfl rfl rfl (by unfold maxLen; omega)
   clear hm1 hg1
   have N1 : Ext wr m1 := B0.trans b1
   refine hK.out _ _ N1 (fun hHeld => ?_)
   clear hK K
   try simp only [Act.put, nrm]
   refine wpAnyH_ready (rs := [4, 5]) (by kernel_rfl) (by simp) (AllReadyH.cons rfl (fun K hK => ?_) (AllReadyH.cons rfl (fun K hK => ?_) AllReadyH.nil))
   ·go_simp
    refine (dig_two _ _ ls rb kb (rb ++ (kb ++ m)) _ (HVB.out.below (HE.out.trans N1)) (rowB2 r1 ((zcm (n := 32) HVr.out (by rw [List.length_map]; exact HLrb.out) (by unfold maxLen; omega)).below N1) ((zcm (n := 32) HVk.out (by rw [List.length_map]; exact HLkb.out) (by unfold maxLen; omega)).below N1)) (by rw [HMM.out]) (by rw [List.length_append, List.length_append, HLrb.out, HLkb.out]; have := HML.out; omega) HCT.out (HGR.out.ext (HE.out.trans N1)) (HGT.out.ext (HE.out.trans N1))).mono ?_
    rintro e m2 ⟨rfl, b2⟩
    have r1 := r1.below b2
    have N2 : Ext wr m2 := N1.trans b2
    refine hK.out _ _ N2 (fun hHeld => ?_)
    clear hK K
    try simp only [Act.put, nrm]
    refine rdy 5 rfl fun K hK => ?_
    refine zan (by rfl) ?_
    refine zax (some 10) _ (ints .u8 (List.replicate 32 0)) rfl rfl (fun w => by rw [Tryz.zeroValue23]; rfl) ?_
    obtain ⟨m3, hm3⟩ : ∃ wNew, wNew = World.alloc m2 (.cells ((ints .u8 (List.replicate 32 0))).toArray 23) := ⟨_, rfl⟩
    rw [← hm3]
    have b3 : Ext m2 m3 := by rw [hm3]; exact Ext.alloc _ _
    obtain ⟨g3, hg3⟩ : ∃ gNew, gNew = (m2).heap.size := ⟨_, rfl⟩
    rw [← hg3]
    have z3 : Blk m3 g3 (ints .u8 (List.replicate 32 0)) 23 := by rw [hm3, hg3]; exact Blk.made _ _ _
    have l3 : (wr).heap.size ≤ g3 := by rw [hg3]; exact N2.size
    clear hm3 hg3
    have r1 := r1.below b3
    have N3 : Ext wr m3 := N2.trans b3
    refine hK.out _ _ N3 (fun hHeld => ?_)
    clear hK K
    try simp only [Act.put, nrm]
    refine rdy 6 rfl fun K hK => ?_
    refine zan (by rfl) ?_
    refine zak _ _ _ rfl g3 ((wideB (rb ++ (kb ++ m))).map bval) rfl rfl _ _ z3 (by rw [List.length_map, (zbw _)]; rfl) (zaf ((zbw _))) (zaj _) ?_
    intro m4 hb4 hg4
    have N4 : Ext wr m4 := zad N3 hg4 l3
    refine hK.out _ _ N4 (fun hHeld => ?_)
    clear hK K
    try simp only [Act.put, nrm]
    refine dne ?_
    go_wp2_with fail
    go_meet
    exact ⟨_, rfl, l3, hb4, N4⟩
   ·refine zan (by rfl) ?_
    refine zax (some 10) _ (ints .u8 (List.replicate 32 0)) rfl rfl (fun w => by rw [Tryz.zeroValue23]; rfl) ?_
    obtain ⟨m2, hm2⟩ : ∃ wNew, wNew = World.alloc m1 (.cells ((ints .u8 (List.replicate 32 0))).toArray 23) := ⟨_, rfl⟩
    rw [← hm2]
    have b2 : Ext m1 m2 := by rw [hm2]; exact Ext.alloc _ _
    obtain ⟨g2, hg2⟩ : ∃ gNew, gNew = (m1).heap.size := ⟨_, rfl⟩
    rw [← hg2]
    have z2 : Blk m2 g2 (ints .u8 (List.replicate 32 0)) 23 := by rw [hm2, hg2]; exact Blk.made _ _ _
    have l2 : (wr).heap.size ≤ g2 := by rw [hg2]; exact N1.size
    clear hm2 hg2
    have r1 := r1.below b2
    have N2 : Ext wr m2 := N1.trans b2
    refine hK.out _ _ N2 (fun hHeld => ?_)
    clear hK K
    try simp only [Act.put, nrm]
    refine rdy 4 rfl fun K hK => ?_
    go_simp
    refine (dig_two _ _ ls rb kb (rb ++ (kb ++ m)) _ (HVB.out.below (HE.out.trans N2)) (rowB2 r1 ((zcm (n := 32) HVr.out (by rw [List.length_map]; exact HLrb.out) (by unfold maxLen; omega)).below N2) ((zcm (n := 32) HVk.out (by rw [List.length_map]; exact HLkb.out) (by unfold maxLen; omega)).below N2)) (by rw [HMM.out]) (by rw [List.length_append, List.length_append, HLrb.out, HLkb.out]; have := HML.out; omega) HCT.out (HGR.out.ext (HE.out.trans N2)) (HGT.out.ext (HE.out.trans N2))).mono ?_
    rintro e m3 ⟨rfl, b3⟩
    have r1 := r1.below b3
    have z2 := z2.below b3
    have N3 : Ext wr m3 := N2.trans b3
    refine hK.out _ _ N3 (fun hHeld => ?_)
    clear hK K
    try simp only [Act.put, nrm]
    refine rdy 6 rfl fun K hK => ?_
    refine zan (by rfl) ?_
    refine zak _ _ _ rfl g2 ((wideB (rb ++ (kb ++ m))).map bval) rfl rfl _ _ z2 (by rw [List.length_map, (zbw _)]; rfl) (zaf ((zbw _))) (zaj _) ?_
    intro m4 hb4 hg4
    have N4 : Ext wr m4 := zad N3 hg4 l2
    refine hK.out _ _ N4 (fun hHeld => ?_)
    clear hK K
    try simp only [Act.put, nrm]
    refine dne ?_
    go_wp2_with fail
    go_meet
    exact ⟨_, rfl, l2, hb4, N4⟩
  ·refine zan (by rfl) ?_
   refine zax (some 10) _ (ints .u8 (List.replicate 32 0)) rfl rfl (fun w => by rw [Tryz.zeroValue23]; rfl) ?_
   obtain ⟨m1, hm1⟩ : ∃ wNew, wNew = World.alloc wr.drew (.cells ((ints .u8 (List.replicate 32 0))).toArray 23) := ⟨_, rfl⟩
   rw [← hm1]
   have b1 : Ext wr.drew m1 := by rw [hm1]; exact Ext.alloc _ _
   obtain ⟨g1, hg1⟩ : ∃ gNew, gNew = (wr.drew).heap.size := ⟨_, rfl⟩
   rw [← hg1]
   have z1 : Blk m1 g1 (ints .u8 (List.replicate 32 0)) 23 := by rw [hm1, hg1]; exact Blk.made _ _ _
   have l1 : (wr).heap.size ≤ g1 := by rw [hg1]; exact B0.size
   clear hm1 hg1
   have N1 : Ext wr m1 := B0.trans b1
   refine hK.out _ _ N1 (fun hHeld => ?_)
   clear hK K
   try simp only [Act.put, nrm]
   refine rdy 3 rfl fun K hK => ?_
   refine zan (by rfl) ?_
   refine zbv (some 32) _ _ _ _ rfl rfl #[.slice (some ⟨pr, 0, none⟩) 32 32, .slice (some ⟨pk, 0, none⟩) 32 32] iq (.slice none 0 0) Tryz.underlying88 HQ0.out HQ1.out (by rw [HQ2.out]; decide) (by rw [HQ2.out]; decide) (by rw [HQ2.out]; kernel_rfl) ?_
   obtain ⟨m2, hm2⟩ : ∃ wNew, wNew = World.alloc m1 (.cells #[.slice (some ⟨pr, 0, none⟩) 32 32, .slice (some ⟨pk, 0, none⟩) 32 32] 46) := ⟨_, rfl⟩
   rw [← hm2]
   have b2 : Ext m1 m2 := by rw [hm2]; exact Ext.alloc _ _
   obtain ⟨g2, hg2⟩ : ∃ gNew, gNew = (m1).heap.size := ⟨_, rfl⟩
   rw [← hg2]
   have z1 := z1.below b2
   have r2 : Row1 m2 (.slice (some ⟨g2, 0, none⟩) 2 2) [.slice (some ⟨pr, 0, none⟩) 32 32, .slice (some ⟨pk, 0, none⟩) 32 32] := by rw [hm2, hg2]; exact Row1.made _ _ _ _ _ _ rfl rfl rfl (by unfold maxLen; omega)
   clear hm2 hg2
   have N2 : Ext wr m2 := N1.trans b2
   refine hK.out _ _ N2 (fun hHeld => ?_)
   clear hK K
   try simp only [Act.put, nrm]
   refine rdy 4 rfl fun K hK => ?_
   go_simp
   refine (dig_two _ _ ls rb kb (rb ++ (kb ++ m)) _ (HVB.out.below (HE.out.trans N2)) (rowB2 r2 ((zcm (n := 32) HVr.out (by rw [List.length_map]; exact HLrb.out) (by unfold maxLen; omega)).below N2) ((zcm (n := 32) HVk.out (by rw [List.length_map]; exact HLkb.out) (by unfold maxLen; omega)).below N2)) (by rw [HMM.out]) (by rw [List.length_append, List.length_append, HLrb.out, HLkb.out]; have := HML.out; omega) HCT.out (HGR.out.ext (HE.out.trans N2)) (HGT.out.ext (HE.out.trans N2))).mono ?_
   rintro e m3 ⟨rfl, b3⟩
   have r2 := r2.below b3
   have z1 := z1.below b3
   have N3 : Ext wr m3 := N2.trans b3
   refine hK.out _ _ N3 (fun hHeld => ?_)
   clear hK K
   try simp only [Act.put, nrm]
   refine rdy 6 rfl fun K hK => ?_
   refine zan (by rfl) ?_
   refine zak _ _ _ rfl g1 ((wideB (rb ++ (kb ++ m))).map bval) rfl rfl _ _ z1 (by rw [List.length_map, (zbw _)]; rfl) (zaf ((zbw _))) (zaj _) ?_
   intro m4 hb4 hg4
   have N4 : Ext wr m4 := zad N3 hg4 l1
   refine hK.out _ _ N4 (fun hHeld => ?_)
   clear hK K
   try simp only [Act.put, nrm]
   refine dne ?_
   go_wp2_with fail
   go_meet
   exact ⟨_, rfl, l1, hb4, N4⟩
 case rest =>
  obtain ⟨pq, rfl, hp0, hb0, hX⟩ := hcut
  have H1 := jh (zaa H1.out hX)
  have H2 := jh (zaa H2.out hX)
  have HSA := jh (zaa HSA.out hX)
  have HSH := jh (zaa HSH.out hX)
  have HVk := jh (zaa HVk.out hX)
  have HVo := jh (zaa HVo.out hX)
  have HVr := jh (zaa HVr.out hX)
  have HE := jh (HE.out.trans hX)
  have HPq := jh hp0
  clear hX hp0
  generalize wc = wq at *
  have HVq := jh hb0
  clear hb0
  obtain ⟨qb, hqb⟩ : ∃ k, k = wideB (rb ++ (kb ++ m)) := ⟨_, rfl⟩
  rw [← hqb] at HVq
  have HNqb := jh hqb
  have HLqb : Hid (qb.length = 32) := jh (by rw [hqb]; exact zbw _)
  clear hqb
  go_wp2_with fail
  refine zal 5 2 6 rfl (by kernel_rfl) (by kernel_rfl) (fun d v c a w h => by cases d <;> exact h) (by kernel_rfl) ?_
  refine zai _ _ po 0 (ob.map bval) _ (by rfl) rfl rfl (fun w hw => (zaa HVo.out hw).range) Tryz.underlying23 rfl (zaf HOL.out) ?_
  simp only [Act.put, nrm]
  refine zai _ _ pq 0 (qb.map bval) _ (by rfl) rfl rfl (fun w hw => (zaa HVq.out hw).range) Tryz.underlying23 rfl (zaf HLqb.out) ?_
  simp only [Act.put, nrm]
  refine zai _ _ pa 0 (av.map bval) _ (by rfl) rfl rfl (fun w hw => (zaa HSA.out hw).range) Tryz.underlying23 rfl (zaf HAL.out) ?_
  simp only [Act.put, nrm]
  refine zah _ _ _ [.agg (qb.map bval).toArray, .agg (av.map bval).toArray] (.agg ((nq (((leN qb : Nat) : Int) * ((leN av : Nat) : Int))).map bval).toArray) (by rfl) rfl Tryz.call56 rfl (fun w hw => scl_Mul_num qb av w HLqb.out HAL.out (HGT.out.ext (HE.out.trans hw))) ?_
  simp only [Act.put, nrm]
  refine zah _ _ _ [.agg (ob.map bval).toArray, .agg ((nq (((leN qb : Nat) : Int) * ((leN av : Nat) : Int))).map bval).toArray] (.agg ((nq (((leN ob : Nat) : Int) + ((leN (nq (((leN qb : Nat) : Int) * ((leN av : Nat) : Int))) : Nat) : Int))).map bval).toArray) (by rfl) rfl Tryz.call55 rfl (fun w hw => scl_Add_num ob _ w HOL.out (zcc _) (HGT.out.ext (HE.out.trans hw))) ?_
  simp only [Act.put, nrm]
  refine zba (zfb (k := 5) _ 11 (.tmp 38) (ints .u8 (List.replicate 32 0)) ((nq (((leN ob : Nat) : Int) + ((leN (nq (((leN qb : Nat) : Int) * ((leN av : Nat) : Int))) : Nat) : Int))).map bval) rfl rfl (by kernel_rfl) (by kernel_rfl) (by kernel_rfl) (by kernel_rfl) (by kernel_rfl) rfl rfl rfl rfl (fun w => by rw [Tryz.zeroValue23]; rfl) rfl (by simp) (fun p => rfl) (by rw [List.length_map, (zcc _)]; rfl) (zaf (zcc _)) (zaj _) (fun ps ws hp hb he => ?_))
  try simp only [Act.put, nrm]
  have H1 := jh (zaa H1.out he)
  have H2 := jh (zaa H2.out he)
  have HSA := jh (zaa HSA.out he)
  have HSH := jh (zaa HSH.out he)
  have HVk := jh (zaa HVk.out he)
  have HVo := jh (zaa HVo.out he)
  have HVr := jh (zaa HVr.out he)
  have HVq := jh (zaa HVq.out he)
  have HE := jh (HE.out.trans he)
  have HPs := jh hp
  clear he hp
  have HVs := jh hb
  clear hb
  obtain ⟨sb, hsb⟩ : ∃ k, k = nq (((leN ob : Nat) : Int) + ((leN (nq (((leN qb : Nat) : Int) * ((leN av : Nat) : Int))) : Nat) : Int)) := ⟨_, rfl⟩
  rw [← hsb] at HVs
  have HNsb := jh hsb
  have HLsb : Hid (sb.length = 32) := jh (by rw [hsb]; exact zcc _)
  clear hsb
  go_wp2_with fail
  refine zal 2 5 2 rfl (by kernel_rfl) (by kernel_rfl) (fun d v c a w h => by cases d <;> exact h) (by kernel_rfl) ?_
  refine zbj (.slice (some ⟨pr, 0, none⟩) 32 32) (by rfl) (fun w hw => by go_simp) ?_
  simp only [Act.put, nrm]
  refine zbj (.slice (some ⟨ps, 0, none⟩) 32 32) (by rfl) (fun w hw => by go_simp) ?_
  simp only [Act.put, nrm]
  refine zba (end_free (by kernel_rfl) (by rw [show Region.ready _ _ _ = [2] from by kernel_rfl]; simp) (fun wx hwx => ?_))
  have H1 := jh (zaa H1.out hwx)
  have H2 := jh (zaa H2.out hwx)
  have HSA := jh (zaa HSA.out hwx)
  have HSH := jh (zaa HSH.out hwx)
  have HVk := jh (zaa HVk.out hwx)
  have HVo := jh (zaa HVo.out hwx)
  have HVr := jh (zaa HVr.out hwx)
  have HVq := jh (zaa HVq.out hwx)
  have HVs := jh (zaa HVs.out hwx)
  have HE := jh (HE.out.trans hwx)
  clear hwx
  refine any_one (k := 2) rfl (by kernel_rfl) rfl ?_
  refine zbv (some 41) _ _ _ _ rfl rfl #[.slice (some ⟨pr, 0, none⟩) 32 32, .slice (some ⟨ps, 0, none⟩) 32 32] iq (.slice none 0 0) Tryz.underlying88 HQ0.out HQ1.out (by rw [HQ2.out]; decide) (by rw [HQ2.out]; decide) (by rw [HQ2.out]; kernel_rfl) ?_
  simp only [Act.put, nrm]
  refine any_one (k := 3) rfl (by kernel_rfl) rfl ?_
  go_simp
  have HRr := zcm (n := 32) HVr.out (by rw [List.length_map]; exact HLrb.out) (by unfold maxLen; omega)
  have HRs := zcm (n := 32) HVs.out (by rw [List.length_map]; exact HLsb.out) (by unfold maxLen; omega)
  refine (cat_two _ _ rb sb wx HRr HRs (by rw [List.length_append, HLrb.out, HLsb.out]; omega)).mono ?_
  rintro e wy ⟨z, rfl, hz, hb⟩
  have H1 := jh (zaa H1.out hb)
  have H2 := jh (zaa H2.out hb)
  have HSA := jh (zaa HSA.out hb)
  have HSH := jh (zaa HSH.out hb)
  have HVk := jh (zaa HVk.out hb)
  have HVo := jh (zaa HVo.out hb)
  have HVr := jh (zaa HVr.out hb)
  have HVq := jh (zaa HVq.out hb)
  have HVs := jh (zaa HVs.out hb)
  have HE := jh (HE.out.trans hb)
  clear hb
  obtain ⟨za, zc, hzf, _, _, _, hcell⟩ := hz
  rw [show ((rb ++ sb).map bval).length = 64 from by rw [List.length_map, List.length_append, HLrb.out, HLsb.out]] at hcell hzf
  subst hzf
  obtain ⟨zb, zo, rfl, _, hcell⟩ := hcell (by intro h; have h2 := congrArg List.length h; rw [List.length_map, List.length_append, HLrb.out, HLsb.out] at h2; cases h2)
  have HLG : Hid ((rb ++ sb).length = 64) := jh (by rw [List.length_append, HLrb.out, HLsb.out])
  have hrg : wy.rangeAt zb zo ((rb ++ sb).map bval) := fun j x hj => by
   have hj2 : j < 64 := by
    rcases Nat.lt_or_ge j 64 with h | h
    ·exact h
    ·rw [List.getElem?_eq_none (by rw [List.length_map, HLG.out]; omega)] at hj; cases hj
   rw [hcell j hj2]; exact hj
  obtain ⟨gb, hgb⟩ : ∃ k, k = rb ++ sb := ⟨_, rfl⟩
  rw [← hgb] at HLG hrg
  have HGB := jh hgb
  clear hcell hgb HRr HRs
  simp only [Act.put, nrm]
  refine any_one (k := 4) rfl (by kernel_rfl) rfl ?_
  refine wp_pure (some 43) (.pointer (some ⟨zb, zo, none⟩)) rfl (by have hat := run_arr_at (P := Tryz.prog) Tryz.underlying26 (some ⟨zb, zo, none⟩) 64 zc (Nat.le_refl _) wy; go_simp) ?_
  simp only [Act.put, nrm]
  refine any_one (k := 5) rfl (by kernel_rfl) rfl ?_
  refine wp_load_mid _ _ rfl zb zo rfl (gb.map bval) _ hrg Tryz.underlying26 rfl (zct HLG.out) ?_
  simp only [Act.put, nrm]
  refine any_one (k := 6) rfl (by kernel_rfl) rfl ?_
  refine zak _ _ _ rfl (A + 1) (gb.map bval) rfl rfl _ _ H2.out (by rw [List.length_map, HLG.out]; rfl) (zct HLG.out) (zaj _) ?_
  intro w9 hb9 hg9
  refine any_nil (by kernel_rfl) ?_
  go_wp2_with fail
  refine bodyPost_ret (zay (by rfl) _ (A + 1) _ _ _ (by rfl) hb9 Tryz.underlying26 rfl (zct HLG.out)) rfl ⟨?_, zad HE.out hg9 (by have := HAW.out; omega)⟩
  have hk1 : kb = edPub sd := by rw [HNkb.out, HAV.out]; rfl
  have ho1 : ob = edNum sd m := by rw [HOB.out, HHV.out]; rfl
  have hr1 : rb = edR sd m := by rw [HNrb.out, ho1]; rfl
  have hs1 : sb = edS sd m := by rw [HNsb.out, HNqb.out, hr1, hk1, ho1, HAV.out]; exact edS_of
  rw [HGB.out, hr1, hs1, HMM.out]
  rfl
def sgC (r s : List UInt8) : List Value := r.map bval ++ s.map bval
theorem sgC_eq (g : List UInt8) : sgC (g.take 32) (g.drop 32) = g.map bval := by
 unfold sgC
 rw [← List.map_append, List.take_append_drop]
theorem mayB_some {n : List UInt8} (h : mayB n = true) : ∃ P, encB P = n := @of_decide_eq_true _ (Classical.propDecidable _) h
theorem mayB_none {n : List UInt8} (h : mayB n = false) : ¬ edMay n := @of_decide_eq_false _ (Classical.propDecidable _) h
theorem lessB_lt {l : List UInt8} (h : lessB l = true) : leN l < 2 ^ 255 := by
 unfold lessB at h
 rw [decide_eq_true_iff, ← qB_q] at h
 exact Nat.lt_trans (Int.ofNat_lt.1 h) (by decide +kernel)
theorem ver_dec {key r s m : List UInt8} {P : Pt} (hr : r.length = 32) (hP : encB P = key) (hs : lessB s = true) :
  decide (encB (padd (pmul (leN s) bP) (pmul (leN (wideB (r ++ (key ++ m)))) (pneg P))) = r) = verB key (r ++ s) m := by
 have h := ver_code (key := key) (g := r ++ s) (m := m) hP
 have h1 : (r ++ s).take 32 = r := by rw [List.take_append_of_le_length (by omega), List.take_of_length_le (by omega)]
 have h2 : (r ++ s).drop 32 = s := by rw [List.drop_append, List.drop_eq_nil_of_le (by omega), List.nil_append, hr, Nat.sub_self, List.drop_zero]
 rw [h1, h2] at h
 by_cases he : encB (padd (pmul (leN s) bP) (pmul (leN (wideB (r ++ (key ++ m)))) (pneg P))) = r
 ·rw [decide_eq_true he, verB_true (h.2 ⟨hs, he⟩)]
 ·rw [decide_eq_false he, verB_false (fun hv => he (h.1 hv).2)]
theorem ver_low {key r s m : List UInt8} (hr : r.length = 32) (hs : lessB s = false) : verB key (r ++ s) m = false := by
 refine verB_false (ver_great ?_)
 have h2 : (r ++ s).drop 32 = s := by rw [List.drop_append, List.drop_eq_nil_of_le (by omega), List.nil_append, hr, Nat.sub_self, List.drop_zero]
 rw [h2]
 exact hs
theorem enc_together {a b : List UInt8} {P : Pt} (ha : leN a < 2 ^ 255) (hb : leN b < 2 ^ 255) : encS (trun bP.es P.es.neg (leN a) (leN b) 255) = encB (padd (pmul (leN a) bP) (pmul (leN b) (pneg P))) :=
 encS_is (trun_full bP.es_is P.es_is.neg ha hb)
theorem cver_two (key rb sb : List UInt8) (v : Value) (ls : List (List UInt8)) (w : World) (hk : key.length = 32) (hr : rb.length = 32) (hs : sb.length = 32) (hv : RowB w v ls) (hl : ls.flatten.length ≤ 1000000000000) (hc : ls.length ≤ 1000000) (hR : GlobRQ w) (hT : GlobT w) (hG : GlobC w) : Calls Tryz.prog 33 #[.agg (key.map bval).toArray, .agg (sgC rb sb).toArray, v] w fun e w' => e = .returned (.bool (verB key (rb ++ sb) ls.flatten)) ∧ Below w.heap.size w w' := by
 have HKL := jh hk
 have HRL := jh hr
 have HSL := jh hs
 clear hk hr hs
 obtain ⟨m, hmm⟩ : ∃ m, m = ls.flatten := ⟨_, rfl⟩
 have HMM := jh hmm.symm
 rw [← hmm] at hl
 have HML := jh hl
 have HCT := jh hc
 have HVB := jh hv
 have HGT := jh hT
 have HGR := jh hR
 obtain ⟨bA, bC, hbf, _⟩ := rowB_form hv
 obtain ⟨bL, hbL⟩ : ∃ n, n = ls.length := ⟨_, rfl⟩
 rw [← hbL] at hbf
 subst hbf
 obtain ⟨iq, hq0, hq1, hq2⟩ := info_two (P := Tryz.prog) (t := 46) (z := .slice none 0 0) (n := 1) (by kernel_rfl)
 have HQ0 := jh hq0
 have HQ1 := jh hq1
 have HQ2 := jh hq2
 clear hq0 hq1 hq2 hv hl hc hT hR hbL
 have HGC := jh hG
 clear hG
 have HB := jh (boxes2 w (key.map bval) (sgC rb sb) 23 26)
 go_enter Tryz.func33, Tryz.ntmps33
 go_upto_region 1 with (fail)
 obtain ⟨H1, H2, HE⟩ := HB.out
 change Code.wp _ _ _ _ (World.alloc (World.alloc w (.cells (key.map bval).toArray 23)) (.cells (sgC rb sb).toArray 26))
 generalize (World.alloc (World.alloc w (.cells (key.map bval).toArray 23)) (.cells (sgC rb sb).toArray 26)) = wa at *
 obtain ⟨A, hA⟩ : ∃ A, A = w.heap.size := ⟨_, rfl⟩
 have HAW : Hid (w.heap.size ≤ A) := jh (by omega)
 rw [← hA] at H1 H2 ⊢
 have H1 := jh H1
 have H2 := jh H2
 have HE : Hid (Ext w wa) := jh HE
 clear hA HB
 have hat1 := run_arr_at (P := Tryz.prog) Tryz.underlying23 (some ⟨A + 1, 0, none⟩) 32 64 (Nat.le_refl _)
 have hat2 := run_arr_at (P := Tryz.prog) Tryz.underlying23 (some ⟨A + 1, 32, none⟩) 32 32 (Nat.le_refl _)
 have HLA := jh H2.out.lt
 refine zal 6 4 8 rfl (by kernel_rfl) (by kernel_rfl) (fun d v c a w h => by cases d <;> exact h) (by kernel_rfl) ?_
 refine zbj (.slice (some ⟨A + 1, 0, none⟩) 32 64) (by rfl) (fun w hw => by go_simp) ?_
 simp only [Act.put, nrm]
 refine zbj (.pointer (some ⟨A + 1, 0, none⟩)) (by rfl) (fun w hw => by go_simp) ?_
 simp only [Act.put, nrm]
 refine zai _ _ (A + 1) 0 (rb.map bval) _ (by rfl) rfl rfl (fun w hw => rng_lo (zaa H2.out hw).range) Tryz.underlying23 rfl (zaf HRL.out) ?_
 simp only [Act.put, nrm]
 refine zbj (.slice (some ⟨A + 1, 32, none⟩) 32 32) (by rfl) (fun w hw => by go_simp) ?_
 simp only [Act.put, nrm]
 refine zbj (.pointer (some ⟨A + 1, 32, none⟩)) (by rfl) (fun w hw => by go_simp) ?_
 simp only [Act.put, nrm]
 refine zai _ _ (A + 1) 32 (sb.map bval) _ (by rfl) rfl rfl (fun w hw => rng_hi (m := 32) (zaa H2.out hw).range (by rw [List.length_map]; exact HRL.out) rfl) Tryz.underlying23 rfl (zaf HSL.out) ?_
 simp only [Act.put, nrm]
 refine zba (end_var2 (k := 6) 23 7 8 (.tmp 14) (.tmp 17) (ints .u8 (List.replicate 32 0)) (rb.map bval) (sb.map bval) rfl rfl rfl rfl (by kernel_rfl) (by kernel_rfl) (by kernel_rfl) (by kernel_rfl) (by kernel_rfl) (by kernel_rfl) (by kernel_rfl) (by kernel_rfl) (by kernel_rfl) (by kernel_rfl) rfl rfl rfl rfl rfl rfl rfl rfl (by decide) (fun w => by rw [Tryz.zeroValue23]; rfl) rfl rfl rfl rfl (by simp) (by simp) (fun p q => rfl) (fun p q => rfl) (by rw [List.length_map, HRL.out]; rfl) (by rw [List.length_map, HSL.out]; rfl) (zaf HRL.out) (zaf HSL.out) (zaj _) (zaj _) (fun pr ps ws hpq hp1 hp2 hb1 hb2 he => ?_))
 try simp only [Act.put, nrm]
 have H1 := jh (zaa H1.out he)
 have H2 := jh (zaa H2.out he)
 have HE := jh (HE.out.trans he)
 have HPQ := jh hpq
 have HPr := jh hp1
 have HPs := jh hp2
 clear he hpq hp1 hp2
 have HVr := jh hb1
 have HVs := jh hb2
 clear hb1 hb2
 clear hat1 hat2
 go_wp2_with (first | (refine wpList_load_mid rfl _ _ rfl A 0 rfl _ _ (H1.out.range) Tryz.underlying23 rfl (zaf HKL.out) ?_))
 refine (cdecoded_f _ key HKL.out (HGC.out.ext HE.out)).mono ?_
 rintro e w8 ⟨rfl, hb⟩
 have H1 := jh (zaa H1.out hb)
 have H2 := jh (zaa H2.out hb)
 have HVr := jh (zaa HVr.out hb)
 have HVs := jh (zaa HVs.out hb)
 have HE := jh (HE.out.trans hb)
 clear hb
 obtain ⟨es, hes⟩ : ∃ k, k = decE key := ⟨_, rfl⟩
 obtain ⟨mb, hmb⟩ : ∃ k, k = mayB key := ⟨_, rfl⟩
 rw [← hes, ← hmb]
 have HES := jh hes
 have HMB := jh hmb
 clear hes hmb
 have HZ := jh (Blk.made w8 zq 85)
 have HEA := jh (Ext.alloc w8 (.cells zq.toArray 85))
 have HL : Hid ((ptF es).length = zq.length) := jh ((zbd _).trans zq_length.symm)
 go_upto_region 3 with (refine zab rfl _ _ _ rfl w8.heap.size (ptF es) rfl rfl _ _ HZ.out HL.out (zbb _) (zcp _) ?_; intro w7 hb hg)
 have HX := jh (zad HEA.out hg (Nat.le_refl _))
 generalize w8.heap.size = pa at *
 have H1 := jh (zaa H1.out HX.out)
 have H2 := jh (zaa H2.out HX.out)
 have HVr := jh (zaa HVr.out HX.out)
 have HVs := jh (zaa HVs.out HX.out)
 have HE := jh (HE.out.trans HX.out)
 have HVa := jh hb
 clear hb hg HX HZ HEA HL
 generalize w7 = w9 at *
 cases mb
 ·skip
  have HV : Hid (verB key (rb ++ sb) ls.flatten = false) := jh (verB_false (ver_no_key (mayB_none HMB.out.symm)))
  go_wp2_with fail
  go_ret
  exact ⟨by rw [HV.out]; rfl, HE.out⟩
 ·obtain ⟨P, hP⟩ := mayB_some HMB.out.symm
  have HPK := jh hP
  have hes : es = P.es := by rw [HES.out]; exact decE_of hP
  subst hes
  clear hP HES HMB
  go_wp2_with (refine zcf (by rfl) _ _ rfl ps rfl _ _ _ _ HVs.out Tryz.underlying23 (zaf HSL.out) ?_)
  refine (Less_num sb _ HSL.out (HGT.out.ext HE.out)).mono ?_
  rintro e wl ⟨rfl, hb⟩
  have H1 := jh (zaa H1.out hb)
  have H2 := jh (zaa H2.out hb)
  have HVr := jh (zaa HVr.out hb)
  have HVs := jh (zaa HVs.out hb)
  have HVa := jh (zaa HVa.out hb)
  have HE := jh (HE.out.trans hb)
  clear hb
  obtain ⟨lb, hlb⟩ : ∃ k, lessB sb = k := ⟨_, rfl⟩
  rw [hlb]
  have HLB := jh hlb
  clear hlb
  cases lb
  ·skip
   have HV : Hid (verB key (rb ++ sb) ls.flatten = false) := jh (ver_low HRL.out HLB.out)
   go_wp2_with fail
   go_ret
   exact ⟨by rw [HV.out]; rfl, HE.out⟩
  ·go_wp2_with fail
   have HLS := jh (lessB_lt HLB.out)
   go_cut [11] from 30 to 34 (fun u11 wq => ∃ gq, u11 = .pointer (some ⟨gq, 0, none⟩) ∧ wl.heap.size ≤ gq ∧ Blk wq gq ((wideB (rb ++ (key ++ m))).map bval) 23 ∧ Ext wl wq)
   case first =>
    have B0 : Ext wl wl.drew := Ext.drew _
    refine wp_region_held_drew (S := fun w' => Ext wl w') (by kernel_rfl) B0 (fun hHeld => ?_)
    refine tke 0 (.slice bA bL bC) rfl (zcb _ (.slice bA bL bC) (by rfl) rfl rfl) hHeld ?_
    simp only [Act.put, nrm]
    refine tke 1 (.slice (some ⟨pr, 0, none⟩) 32 32) rfl (zew _ _ _ _ (.pointer (some ⟨pr, 0, none⟩)) (.slice (some ⟨pr, 0, none⟩) 32 32) none none (by rfl) rfl rfl rfl rfl (fun w => cut_whole Tryz.underlying23 Tryz.sizeOf5 (by omega) _ w)) hHeld ?_
    simp only [Act.put, nrm]
    refine tke 2 (.slice (some ⟨A, 0, none⟩) 32 32) rfl (zew _ _ _ _ (.pointer (some ⟨A, 0, none⟩)) (.slice (some ⟨A, 0, none⟩) 32 32) none none (by rfl) rfl rfl rfl rfl (fun w => cut_whole Tryz.underlying23 Tryz.sizeOf5 (by omega) _ w)) hHeld ?_
    simp only [Act.put, nrm]
    refine wpAnyH_ready (rs := [3, 5]) (by kernel_rfl) (by simp) (AllReadyH.cons rfl (fun K hK => ?_) (AllReadyH.cons rfl (fun K hK => ?_) AllReadyH.nil))
    ·refine zan (by rfl) ?_
     refine zbv (some 33) _ _ _ _ rfl rfl #[.slice (some ⟨pr, 0, none⟩) 32 32, .slice (some ⟨A, 0, none⟩) 32 32] iq (.slice none 0 0) Tryz.underlying88 HQ0.out HQ1.out (by rw [HQ2.out]; decide) (by rw [HQ2.out]; decide) (by rw [HQ2.out]; kernel_rfl) ?_
     obtain ⟨m1, hm1⟩ : ∃ wNew, wNew = World.alloc wl.drew (.cells #[.slice (some ⟨pr, 0, none⟩) 32 32, .slice (some ⟨A, 0, none⟩) 32 32] 46) := ⟨_, rfl⟩
     rw [← hm1]
     have b1 : Ext wl.drew m1 := by rw [hm1]; exact Ext.alloc _ _
     obtain ⟨g1, hg1⟩ : ∃ gNew, gNew = (wl.drew).heap.size := ⟨_, rfl⟩
     rw [← hg1]
     have r1 : Row1 m1 (.slice (some ⟨g1, 0, none⟩) 2 2) [.slice (some ⟨pr, 0, none⟩) 32 32, .slice (some ⟨A, 0, none⟩) 32 32] := by rw [hm1, hg1]; exact Row1.made _ _ _ _ _ _ rfl rfl rfl (by unfold maxLen; omega)
     clear hm1 hg1
     have N1 : Ext wl m1 := B0.trans b1
     refine hK.out _ _ N1 (fun hHeld => ?_)
     clear hK K
     try simp only [Act.put, nrm]
     refine wpAnyH_ready (rs := [4, 5]) (by kernel_rfl) (by simp) (AllReadyH.cons rfl (fun K hK => ?_) (AllReadyH.cons rfl (fun K hK => ?_) AllReadyH.nil))
     ·go_simp
      refine (dig_two _ _ ls rb key (rb ++ (key ++ m)) _ (HVB.out.below (HE.out.trans N1)) (rowB2 r1 ((zcm (n := 32) HVr.out (by rw [List.length_map]; exact HRL.out) (by unfold maxLen; omega)).below N1) ((zcm (n := 32) H1.out (by rw [List.length_map]; exact HKL.out) (by unfold maxLen; omega)).below N1)) (by rw [HMM.out]) (by rw [List.length_append, List.length_append, HRL.out, HKL.out]; have := HML.out; omega) HCT.out (HGR.out.ext (HE.out.trans N1)) (HGT.out.ext (HE.out.trans N1))).mono ?_
      rintro e m2 ⟨rfl, b2⟩
      have r1 := r1.below b2
      have N2 : Ext wl m2 := N1.trans b2
      refine hK.out _ _ N2 (fun hHeld => ?_)
      clear hK K
      try simp only [Act.put, nrm]
      refine rdy 5 rfl fun K hK => ?_
      refine zan (by rfl) ?_
      refine zax (some 11) _ (ints .u8 (List.replicate 32 0)) rfl rfl (fun w => by rw [Tryz.zeroValue23]; rfl) ?_
      obtain ⟨m3, hm3⟩ : ∃ wNew, wNew = World.alloc m2 (.cells ((ints .u8 (List.replicate 32 0))).toArray 23) := ⟨_, rfl⟩
      rw [← hm3]
      have b3 : Ext m2 m3 := by rw [hm3]; exact Ext.alloc _ _
      obtain ⟨g3, hg3⟩ : ∃ gNew, gNew = (m2).heap.size := ⟨_, rfl⟩
      rw [← hg3]
      have z3 : Blk m3 g3 (ints .u8 (List.replicate 32 0)) 23 := by rw [hm3, hg3]; exact Blk.made _ _ _
      have l3 : (wl).heap.size ≤ g3 := by rw [hg3]; exact N2.size
      clear hm3 hg3
      have r1 := r1.below b3
      have N3 : Ext wl m3 := N2.trans b3
      refine hK.out _ _ N3 (fun hHeld => ?_)
      clear hK K
      try simp only [Act.put, nrm]
      refine rdy 6 rfl fun K hK => ?_
      refine zan (by rfl) ?_
      refine zak _ _ _ rfl g3 ((wideB (rb ++ (key ++ m))).map bval) rfl rfl _ _ z3 (by rw [List.length_map, (zbw _)]; rfl) (zaf ((zbw _))) (zaj _) ?_
      intro m4 hb4 hg4
      have N4 : Ext wl m4 := zad N3 hg4 l3
      refine hK.out _ _ N4 (fun hHeld => ?_)
      clear hK K
      try simp only [Act.put, nrm]
      refine dne ?_
      go_wp2_with fail
      go_meet
      exact ⟨_, rfl, l3, hb4, N4⟩
     ·refine zan (by rfl) ?_
      refine zax (some 11) _ (ints .u8 (List.replicate 32 0)) rfl rfl (fun w => by rw [Tryz.zeroValue23]; rfl) ?_
      obtain ⟨m2, hm2⟩ : ∃ wNew, wNew = World.alloc m1 (.cells ((ints .u8 (List.replicate 32 0))).toArray 23) := ⟨_, rfl⟩
      rw [← hm2]
      have b2 : Ext m1 m2 := by rw [hm2]; exact Ext.alloc _ _
      obtain ⟨g2, hg2⟩ : ∃ gNew, gNew = (m1).heap.size := ⟨_, rfl⟩
      rw [← hg2]
      have z2 : Blk m2 g2 (ints .u8 (List.replicate 32 0)) 23 := by rw [hm2, hg2]; exact Blk.made _ _ _
      have l2 : (wl).heap.size ≤ g2 := by rw [hg2]; exact N1.size
      clear hm2 hg2
      have r1 := r1.below b2
      have N2 : Ext wl m2 := N1.trans b2
      refine hK.out _ _ N2 (fun hHeld => ?_)
      clear hK K
      try simp only [Act.put, nrm]
      refine rdy 4 rfl fun K hK => ?_
      go_simp
      refine (dig_two _ _ ls rb key (rb ++ (key ++ m)) _ (HVB.out.below (HE.out.trans N2)) (rowB2 r1 ((zcm (n := 32) HVr.out (by rw [List.length_map]; exact HRL.out) (by unfold maxLen; omega)).below N2) ((zcm (n := 32) H1.out (by rw [List.length_map]; exact HKL.out) (by unfold maxLen; omega)).below N2)) (by rw [HMM.out]) (by rw [List.length_append, List.length_append, HRL.out, HKL.out]; have := HML.out; omega) HCT.out (HGR.out.ext (HE.out.trans N2)) (HGT.out.ext (HE.out.trans N2))).mono ?_
      rintro e m3 ⟨rfl, b3⟩
      have r1 := r1.below b3
      have z2 := z2.below b3
      have N3 : Ext wl m3 := N2.trans b3
      refine hK.out _ _ N3 (fun hHeld => ?_)
      clear hK K
      try simp only [Act.put, nrm]
      refine rdy 6 rfl fun K hK => ?_
      refine zan (by rfl) ?_
      refine zak _ _ _ rfl g2 ((wideB (rb ++ (key ++ m))).map bval) rfl rfl _ _ z2 (by rw [List.length_map, (zbw _)]; rfl) (zaf ((zbw _))) (zaj _) ?_
      intro m4 hb4 hg4
      have N4 : Ext wl m4 := zad N3 hg4 l2
      refine hK.out _ _ N4 (fun hHeld => ?_)
      clear hK K
      try simp only [Act.put, nrm]
      refine dne ?_
      go_wp2_with fail
      go_meet
      exact ⟨_, rfl, l2, hb4, N4⟩
    ·refine zan (by rfl) ?_
     refine zax (some 11) _ (ints .u8 (List.replicate 32 0)) rfl rfl (fun w => by rw [Tryz.zeroValue23]; rfl) ?_
     obtain ⟨m1, hm1⟩ : ∃ wNew, wNew = World.alloc wl.drew (.cells ((ints .u8 (List.replicate 32 0))).toArray 23) := ⟨_, rfl⟩
     rw [← hm1]
     have b1 : Ext wl.drew m1 := by rw [hm1]; exact Ext.alloc _ _
     obtain ⟨g1, hg1⟩ : ∃ gNew, gNew = (wl.drew).heap.size := ⟨_, rfl⟩
     rw [← hg1]
     have z1 : Blk m1 g1 (ints .u8 (List.replicate 32 0)) 23 := by rw [hm1, hg1]; exact Blk.made _ _ _
     have l1 : (wl).heap.size ≤ g1 := by rw [hg1]; exact B0.size
     clear hm1 hg1
     have N1 : Ext wl m1 := B0.trans b1
     refine hK.out _ _ N1 (fun hHeld => ?_)
     clear hK K
     try simp only [Act.put, nrm]
     refine rdy 3 rfl fun K hK => ?_
     refine zan (by rfl) ?_
     refine zbv (some 33) _ _ _ _ rfl rfl #[.slice (some ⟨pr, 0, none⟩) 32 32, .slice (some ⟨A, 0, none⟩) 32 32] iq (.slice none 0 0) Tryz.underlying88 HQ0.out HQ1.out (by rw [HQ2.out]; decide) (by rw [HQ2.out]; decide) (by rw [HQ2.out]; kernel_rfl) ?_
     obtain ⟨m2, hm2⟩ : ∃ wNew, wNew = World.alloc m1 (.cells #[.slice (some ⟨pr, 0, none⟩) 32 32, .slice (some ⟨A, 0, none⟩) 32 32] 46) := ⟨_, rfl⟩
     rw [← hm2]
     have b2 : Ext m1 m2 := by rw [hm2]; exact Ext.alloc _ _
     obtain ⟨g2, hg2⟩ : ∃ gNew, gNew = (m1).heap.size := ⟨_, rfl⟩
     rw [← hg2]
     have z1 := z1.below b2
     have r2 : Row1 m2 (.slice (some ⟨g2, 0, none⟩) 2 2) [.slice (some ⟨pr, 0, none⟩) 32 32, .slice (some ⟨A, 0, none⟩) 32 32] := by rw [hm2, hg2]; exact Row1.made _ _ _ _ _ _ rfl rfl rfl (by unfold maxLen; omega)
     clear hm2 hg2
     have N2 : Ext wl m2 := N1.trans b2
     refine hK.out _ _ N2 (fun hHeld => ?_)
     clear hK K
     try simp only [Act.put, nrm]
     refine rdy 4 rfl fun K hK => ?_
     go_simp
     refine (dig_two _ _ ls rb key (rb ++ (key ++ m)) _ (HVB.out.below (HE.out.trans N2)) (rowB2 r2 ((zcm (n := 32) HVr.out (by rw [List.length_map]; exact HRL.out) (by unfold maxLen; omega)).below N2) ((zcm (n := 32) H1.out (by rw [List.length_map]; exact HKL.out) (by unfold maxLen; omega)).below N2)) (by rw [HMM.out]) (by rw [List.length_append, List.length_append, HRL.out, HKL.out]; have := HML.out; omega) HCT.out (HGR.out.ext (HE.out.trans N2)) (HGT.out.ext (HE.out.trans N2))).mono ?_
     rintro e m3 ⟨rfl, b3⟩
     have r2 := r2.below b3
     have z1 := z1.below b3
     have N3 : Ext wl m3 := N2.trans b3
     refine hK.out _ _ N3 (fun hHeld => ?_)
     clear hK K
     try simp only [Act.put, nrm]
     refine rdy 6 rfl fun K hK => ?_
     refine zan (by rfl) ?_
     refine zak _ _ _ rfl g1 ((wideB (rb ++ (key ++ m))).map bval) rfl rfl _ _ z1 (by rw [List.length_map, (zbw _)]; rfl) (zaf ((zbw _))) (zaj _) ?_
     intro m4 hb4 hg4
     have N4 : Ext wl m4 := zad N3 hg4 l1
     refine hK.out _ _ N4 (fun hHeld => ?_)
     clear hK K
     try simp only [Act.put, nrm]
     refine dne ?_
     go_wp2_with fail
     go_meet
     exact ⟨_, rfl, l1, hb4, N4⟩
   case rest =>
    obtain ⟨pq, rfl, hp0, hb0, hX⟩ := hcut
    have H1 := jh (zaa H1.out hX)
    have H2 := jh (zaa H2.out hX)
    have HVr := jh (zaa HVr.out hX)
    have HVs := jh (zaa HVs.out hX)
    have HVa := jh (zaa HVa.out hX)
    have HE := jh (HE.out.trans hX)
    have HPq := jh hp0
    clear hX hp0
    generalize wc = wq at *
    have HVq := jh hb0
    clear hb0
    obtain ⟨qb, hqb⟩ : ∃ k, k = wideB (rb ++ (key ++ m)) := ⟨_, rfl⟩
    rw [← hqb] at HVq
    have HNqb := jh hqb
    have HLqb : Hid (qb.length = 32) := jh (by rw [hqb]; exact zbw _)
    clear hqb
    have HLQ : Hid (leN qb < 2 ^ 255) := jh (by rw [HNqb.out]; exact wideB_lt _)
    go_wp2_with fail
    obtain ⟨vb, hvb⟩ : ∃ k, decide (encB (padd (pmul (leN sb) bP) (pmul (leN qb) (pneg P))) = rb) = k := ⟨_, rfl⟩
    have HVD := jh hvb
    clear hvb
    refine zbm (by kernel_rfl) (by kernel_rfl) ?_
    refine zai _ _ ps 0 (sb.map bval) _ (by rfl) rfl rfl (fun w hw => (zaa HVs.out hw).range) Tryz.underlying23 rfl (zaf HSL.out) ?_
    simp only [Act.put, nrm]
    refine zah _ _ _ [] (.agg (ptF bP.es).toArray) (by rfl) rfl Tryz.call53 rfl (fun w hw => cbase_f w (HGC.out.ext (HE.out.trans hw))) ?_
    simp only [Act.put, nrm]
    refine zai _ _ pq 0 (qb.map bval) _ (by rfl) rfl rfl (fun w hw => (zaa HVq.out hw).range) Tryz.underlying23 rfl (zaf HLqb.out) ?_
    simp only [Act.put, nrm]
    refine zai _ _ pa 0 (ptF P.es) _ (by rfl) rfl rfl (fun w hw => (zaa HVa.out hw).range) Tryz.underlying85 rfl (zbb _) ?_
    simp only [Act.put, nrm]
    refine zah _ _ _ [.agg (ptF P.es).toArray] (.agg (ptF P.es.neg).toArray) (by rfl) rfl Tryz.call64 rfl (fun w hw => cneg_f w P.es) ?_
    simp only [Act.put, nrm]
    refine zah _ _ _ [.agg (sb.map bval).toArray, .agg (ptF bP.es).toArray, .agg (qb.map bval).toArray, .agg (ptF P.es.neg).toArray] (.agg (ptF (trun bP.es P.es.neg (leN sb) (leN qb) 255)).toArray) (by rfl) rfl Tryz.call63 rfl (fun w hw => ctogether_f w sb qb bP.es P.es.neg HSL.out HLqb.out (HGC.out.ext (HE.out.trans hw))) ?_
    simp only [Act.put, nrm]
    refine zah _ _ _ [.agg (ptF (trun bP.es P.es.neg (leN sb) (leN qb) 255)).toArray] (.agg ((encB (padd (pmul (leN sb) bP) (pmul (leN qb) (pneg P)))).map bval).toArray) (by rfl) rfl Tryz.call51 rfl (fun w hw => (by have h := cencoded_f w (trun bP.es P.es.neg (leN sb) (leN qb) 255); rwa [enc_together HLS.out HLQ.out] at h)) ?_
    simp only [Act.put, nrm]
    refine zai _ _ pr 0 (rb.map bval) _ (by rfl) rfl rfl (fun w hw => (zaa HVr.out hw).range) Tryz.underlying23 rfl (zaf HRL.out) ?_
    simp only [Act.put, nrm]
    refine det_eql .eql _ _ _ _ _ 32 _ _ _ vb (by rfl) rfl (Or.inl ⟨rfl, HVD.out⟩) Tryz.underlying23 Tryz.underlying5 zcv zck zco rfl rfl (zcs _) HRL.out ?_
    simp only [Act.put, nrm]
    refine zbs _ (.bool vb) (by rfl) rfl rfl ?_
    simp only [Act.put, nrm]
    refine zba (fun wz hwz => ?_)
    have HE := jh (HE.out.trans hwz)
    go_wp2_with fail
    go_ret
    refine ⟨?_, HE.out⟩
    rw [HMM.out, ← ver_dec HRL.out HPK.out HLB.out, ← HNqb.out, HVD.out]
    rfl
theorem CVer_num (key g : List UInt8) (v : Value) (ls : List (List UInt8)) (w : World) (hk : key.length = 32) (hg : g.length = 64) (hv : RowB w v ls) (hl : ls.flatten.length ≤ 1000000000000) (hc : ls.length ≤ 1000000) (hR : GlobRQ w) (hT : GlobT w) (hG : GlobC w) : Calls Tryz.prog 33 #[.agg (key.map bval).toArray, .agg (g.map bval).toArray, v] w fun e w' => e = .returned (.bool (verB key g ls.flatten)) ∧ Below w.heap.size w w' := by
 have h := cver_two key (g.take 32) (g.drop 32) v ls w hk (by rw [List.length_take, hg]; rfl) (by rw [List.length_drop, hg]) hv hl hc hR hT hG
 rwa [sgC_eq, List.take_append_drop] at h
theorem pck_i64wrap (n : Int) : IntKind.i64.wrap n = wrap64 n := IntWalk.i64_left n
theorem pck_row_nums {w : World} {b off : Nat} {zs : List Int} (h : ∀ i, i < (zs.map (Value.int .i64)).length → w.cell? ⟨b, off + i, none⟩ = (zs.map (Value.int .i64))[i]?) :
  ∀ i, i < zs.length → w.cell? ⟨b, off + i, none⟩ = some (.int .i64 (zs.getD i 0)) := by
 intro i hi
 rw [h i (by simpa using hi)]
 simp [List.getD, hi]
theorem room_any {bv : Value} {bl : List UInt8} (r : Nat) (w : World) (hb : Row1 w bv (bl.map bval)) (hsz : bl.length + r ≤ 1099511627776) :
  Calls Tryz.prog 100 #[bv, .int .i64 r] w fun e w' => ∃ v, e = .returned v ∧ w'.ownsRow w.heap.size 5 1 v bl.length (bl.map bval) ∧ Below w.heap.size w w' := by
 obtain ⟨i0, hi, hz0, hz1, hz2⟩ := info_parts Tryz.info5
 have hb0 := hb
 obtain ⟨a, cap, rfl, h1, h2, h3, h4⟩ := hb
 rw [List.length_map] at h1 hb0 ⊢
 unfold maxLen at h2
 clear h3 h4
 have hr0 : (0 : Int) ≤ (r : Int) := Int.natCast_nonneg _
 obtain ⟨wm, hmk, hmo, hmg⟩ := run_make_own (P := Tryz.prog) w w.heap.size 46 5 i0 (.int .u8 0) 1 Tryz.underlying46 hi hz0 hz1 .i64 .i64 (bl.length + r) (by rw [hz2]; omega) (by unfold maxLen; omega) (Nat.le_refl _)
 rw [show ((bl.length + r : Nat) : Int) = (bl.length : Int) + (r : Int) from by omega] at hmk
 have hrb := jh (hb0.grown hmg (fun k hk => by cases hk))
 have HMO := jh hmo
 have HMG := jh hmg
 have hbl : Hid ((bl.map bval).length = bl.length) := jh (by simp)
 clear hmo hmg hb0
 go_enter Tryz.func100, Tryz.ntmps100
 go_wp2_with (at_builtin; refine zas rfl _ _ 46 rfl w.heap.size 5 i0 (.int .u8 0) 1 Tryz.underlying46 hi hz0 hz1 hz2 rfl _ 0 [] rfl HMO.out rfl hrb.out (zaj _) (by rw [hbl.out]; unfold maxLen; omega) (by rw [hbl.out]; omega) HMG.out.size ?_; intro v2 w2 hown2 hgrow2)
 have hb2 : Below w.heap.size w w2 := ((Below.refl _ _).grown HMG.out (Nat.le_refl _) (fun r hr => by cases hr)).grown hgrow2 HMG.out.size (fun r hr => (HMO.out.lt r hr).1)
 rw [List.nil_append, hbl.out, Nat.zero_add] at hown2
 have HO := jh hown2
 have HB := jh hb2
 clear hown2 hgrow2 hb2
 go_wp2_with fail
 go_ret
 exact ⟨_, rfl, HO.out, HB.out⟩
theorem be8_cells (n : Int) : (zep n).map bval = [.int .u8 (n / 72057594037927936 % 256), .int .u8 (n / 281474976710656 % 256), .int .u8 (n / 1099511627776 % 256), .int .u8 (n / 4294967296 % 256), .int .u8 (n / 16777216 % 256), .int .u8 (n / 65536 % 256), .int .u8 (n / 256 % 256), .int .u8 (n % 256)] := by
 simp [zep, byte_cell]
theorem appnum_any (base : Nat) (ov : Value) (m : Nat) (xs : List Value) (n : Int) (w : World) (ho : w.ownsRow base 5 1 ov m xs) (hbase : base ≤ w.heap.size) (hm : m ≤ 1099511627776) :
  Calls Tryz.prog 101 #[ov, .int .i64 n] w fun e w' => ∃ v, e = .returned v ∧ w'.ownsRow base 5 1 v (m + 8) (xs ++ (zep n).map bval) ∧ Below base w w' := by
 obtain ⟨i0, hi, hz0, hz1, hz2⟩ := info_parts Tryz.info5
 have HO := jh ho
 have HB := jh (Below.refl base w)
 have hbase0 := hbase
 clear ho
 go_enter Tryz.func101, Tryz.ntmps101
 go_wp2_with fail
 refine wp_loop_rounds 9 ?_
 rw [rounds_succ]
 go_wp2_with (at_builtin; refine zas rfl _ _ 46 rfl base 5 i0 (.int .u8 0) 1 Tryz.underlying46 hi hz0 hz1 hz2 rfl _ (m + 0) _ rfl (HO.out.alloc _) rfl (Row1.made _ _ _ _ 1 _ rfl rfl rfl (by unfold maxLen; omega)) (by simp [Value.oneCell']) (by unfold maxLen; simp; omega) (by simp; omega) (by simp; omega) ?_; intro v1 w1 hown1 hgrow1)
 have hb1 := (HB.out.alloc hbase _).grown hgrow1 (by simp; omega) (fun r hr => (HO.out.lt r hr).1)
 have hbase := Nat.le_trans hbase0 hb1.size
 clear HO HB
 have HO := jh hown1
 have HB := jh hb1
 clear hown1 hb1 hgrow1
 rw [rounds_succ]
 go_wp2_with (at_builtin; refine zas rfl _ _ 46 rfl base 5 i0 (.int .u8 0) 1 Tryz.underlying46 hi hz0 hz1 hz2 rfl _ (m + 1) _ rfl (HO.out.alloc _) rfl (Row1.made _ _ _ _ 1 _ rfl rfl rfl (by unfold maxLen; omega)) (by simp [Value.oneCell']) (by unfold maxLen; simp; omega) (by simp; omega) (by simp; omega) ?_; intro v2 w2 hown2 hgrow2)
 have hb2 := (HB.out.alloc hbase _).grown hgrow2 (by simp; omega) (fun r hr => (HO.out.lt r hr).1)
 have hbase := Nat.le_trans hbase0 hb2.size
 clear HO HB
 have HO := jh hown2
 have HB := jh hb2
 clear hown2 hb2 hgrow2
 rw [rounds_succ]
 go_wp2_with (at_builtin; refine zas rfl _ _ 46 rfl base 5 i0 (.int .u8 0) 1 Tryz.underlying46 hi hz0 hz1 hz2 rfl _ (m + 2) _ rfl (HO.out.alloc _) rfl (Row1.made _ _ _ _ 1 _ rfl rfl rfl (by unfold maxLen; omega)) (by simp [Value.oneCell']) (by unfold maxLen; simp; omega) (by simp; omega) (by simp; omega) ?_; intro v3 w3 hown3 hgrow3)
 have hb3 := (HB.out.alloc hbase _).grown hgrow3 (by simp; omega) (fun r hr => (HO.out.lt r hr).1)
 have hbase := Nat.le_trans hbase0 hb3.size
 clear HO HB
 have HO := jh hown3
 have HB := jh hb3
 clear hown3 hb3 hgrow3
 rw [rounds_succ]
 go_wp2_with (at_builtin; refine zas rfl _ _ 46 rfl base 5 i0 (.int .u8 0) 1 Tryz.underlying46 hi hz0 hz1 hz2 rfl _ (m + 3) _ rfl (HO.out.alloc _) rfl (Row1.made _ _ _ _ 1 _ rfl rfl rfl (by unfold maxLen; omega)) (by simp [Value.oneCell']) (by unfold maxLen; simp; omega) (by simp; omega) (by simp; omega) ?_; intro v4 w4 hown4 hgrow4)
 have hb4 := (HB.out.alloc hbase _).grown hgrow4 (by simp; omega) (fun r hr => (HO.out.lt r hr).1)
 have hbase := Nat.le_trans hbase0 hb4.size
 clear HO HB
 have HO := jh hown4
 have HB := jh hb4
 clear hown4 hb4 hgrow4
 rw [rounds_succ]
 go_wp2_with (at_builtin; refine zas rfl _ _ 46 rfl base 5 i0 (.int .u8 0) 1 Tryz.underlying46 hi hz0 hz1 hz2 rfl _ (m + 4) _ rfl (HO.out.alloc _) rfl (Row1.made _ _ _ _ 1 _ rfl rfl rfl (by unfold maxLen; omega)) (by simp [Value.oneCell']) (by unfold maxLen; simp; omega) (by simp; omega) (by simp; omega) ?_; intro v5 w5 hown5 hgrow5)
 have hb5 := (HB.out.alloc hbase _).grown hgrow5 (by simp; omega) (fun r hr => (HO.out.lt r hr).1)
 have hbase := Nat.le_trans hbase0 hb5.size
 clear HO HB
 have HO := jh hown5
 have HB := jh hb5
 clear hown5 hb5 hgrow5
 rw [rounds_succ]
 go_wp2_with (at_builtin; refine zas rfl _ _ 46 rfl base 5 i0 (.int .u8 0) 1 Tryz.underlying46 hi hz0 hz1 hz2 rfl _ (m + 5) _ rfl (HO.out.alloc _) rfl (Row1.made _ _ _ _ 1 _ rfl rfl rfl (by unfold maxLen; omega)) (by simp [Value.oneCell']) (by unfold maxLen; simp; omega) (by simp; omega) (by simp; omega) ?_; intro v6 w6 hown6 hgrow6)
 have hb6 := (HB.out.alloc hbase _).grown hgrow6 (by simp; omega) (fun r hr => (HO.out.lt r hr).1)
 have hbase := Nat.le_trans hbase0 hb6.size
 clear HO HB
 have HO := jh hown6
 have HB := jh hb6
 clear hown6 hb6 hgrow6
 rw [rounds_succ]
 go_wp2_with (at_builtin; refine zas rfl _ _ 46 rfl base 5 i0 (.int .u8 0) 1 Tryz.underlying46 hi hz0 hz1 hz2 rfl _ (m + 6) _ rfl (HO.out.alloc _) rfl (Row1.made _ _ _ _ 1 _ rfl rfl rfl (by unfold maxLen; omega)) (by simp [Value.oneCell']) (by unfold maxLen; simp; omega) (by simp; omega) (by simp; omega) ?_; intro v7 w7 hown7 hgrow7)
 have hb7 := (HB.out.alloc hbase _).grown hgrow7 (by simp; omega) (fun r hr => (HO.out.lt r hr).1)
 have hbase := Nat.le_trans hbase0 hb7.size
 clear HO HB
 have HO := jh hown7
 have HB := jh hb7
 clear hown7 hb7 hgrow7
 rw [rounds_succ]
 go_wp2_with (at_builtin; refine zas rfl _ _ 46 rfl base 5 i0 (.int .u8 0) 1 Tryz.underlying46 hi hz0 hz1 hz2 rfl _ (m + 7) _ rfl (HO.out.alloc _) rfl (Row1.made _ _ _ _ 1 _ rfl rfl rfl (by unfold maxLen; omega)) (by simp [Value.oneCell']) (by unfold maxLen; simp; omega) (by simp; omega) (by simp; omega) ?_; intro v8 w8 hown8 hgrow8)
 have hb8 := (HB.out.alloc hbase _).grown hgrow8 (by simp; omega) (fun r hr => (HO.out.lt r hr).1)
 have hbase := Nat.le_trans hbase0 hb8.size
 clear HO HB
 have HO := jh hown8
 have HB := jh hb8
 clear hown8 hb8 hgrow8
 rw [rounds_succ]
 go_wp2_with fail
 go_ret
 refine ⟨_, rfl, ?_, HB.out⟩
 rw [be8_cells]
 simpa using HO.out
theorem pint_loop (bv : Value) (bl : List UInt8) (b off cap n : Nat) (ns : List Int) (w : World) (hb : Row1 w bv (bl.map bval)) (hn : ns.length = n) (hn0 : 0 < n) (hcap : n ≤ cap) (hm : cap ≤ maxLen) (hbw : b < w.heap.size)
  (hx : ∀ i, i < ns.length → w.cell? ⟨b, off + i, none⟩ = some (.int .i64 (ns.getD i 0))) (hsz : bl.length + 8 * n ≤ 1099511627776) :
  Calls Tryz.prog 57 #[bv, .slice (some ⟨b, off, none⟩) n cap] w fun e w' => ∃ v, e = .returned v ∧ w'.ownsRow w.heap.size 5 1 v (bl.length + 8 * n) ((bl ++ be8s ns).map bval) ∧ Below w.heap.size w w' := by
 unfold maxLen at hm
 have HX := jh hx
 have HN := jh hn
 have hroom := room_any (8 * n) w hb (by omega)
 rw [show ((8 * n : Nat) : Int) = 8 * (n : Int) from by omega] at hroom
 have HR := jh hroom
 clear hx hn hb hroom
 go_enter Tryz.func57, Tryz.ntmps57
 go_wp2_with fail
 refine HR.out.mono ?_
 rintro e w1 ⟨v1, rfl, hown1, hbel1⟩
 have HO1 := jh hown1
 have HB1 := jh hbel1
 clear hown1 hbel1
 go_wp2_with fail
 go_loopw [5, 15] (fun v i wr => ∃ k : Nat, k ≤ n ∧ i = .int .i64 k ∧ wr.ownsRow w.heap.size 5 1 v (bl.length + 8 * k) ((bl ++ be8s (ns.take k)).map bval) ∧ Below w.heap.size w wr) (fun _ i _ => n - (intOf i).toNat)
 case atStart => exact ⟨0, Nat.zero_le _, rfl, by simpa [be8s] using HO1.out, HB1.out⟩
 case round =>
  obtain ⟨k, hk, rfl, hown, hbel⟩ := hrel
  by_cases hlt : k < n
  ·have hn := HN.out
   have c1 := hbel.cell (p := ⟨b, off + k, none⟩) hbw
   rw [HX.out k (by omega)] at c1
   have i0' : (0 : Int) ≤ (k : Int) := Int.natCast_nonneg _
   have i1 : (k : Int) < (n : Int) := by omega
   have hnext : be8s (ns.take (k + 1)) = be8s (ns.take k) ++ zep (ns.getD k 0) := by
    rw [List.take_succ_eq_append_getElem (by omega), be8s_snoc]
    simp [List.getD, show k < ns.length from by omega]
   generalize ns.getD k 0 = x at *
   have HA := jh (appnum_any w.heap.size _ _ _ x wr hown hbel.size (by omega))
   have HBE := jh hbel
   have HNX := jh hnext
   clear hn hown hbel hnext
   go_wp2_with fail
   refine HA.out.mono ?_
   rintro e w2 ⟨v2, rfl, hown2, hbel2⟩
   have hown3 : w2.ownsRow w.heap.size 5 1 v2 (bl.length + 8 * (k + 1)) ((bl ++ be8s (ns.take (k + 1))).map bval) := by
    rw [HNX.out, ← List.append_assoc, List.map_append]
    exact hown2
   have hbel3 := HBE.out.trans hbel2
   clear hown2 hbel2
   have HO3 := jh hown3
   have HB3 := jh hbel3
   clear hown3 hbel3
   go_wp2_with fail
   go_roundw
   case rel => exact ⟨k + 1, by omega, by go_num, HO3.out, HB3.out⟩
   case measure => simp [intOf]; omega
  ·have hk' : k = n := by omega
   subst hk'
   have hn := HN.out
   rw [List.take_of_length_le (by omega)] at hown
   have HO := jh hown
   have HBE := jh hbel
   clear hown hbel hn
   go_wp2_with fail
   go_ret
   exact ⟨_, rfl, HO.out, HBE.out⟩
theorem pint_none (bv : Value) (bl : List UInt8) (a : Option Addr) (cap : Nat) (w : World) (hb : Row1 w bv (bl.map bval)) (hsz : bl.length ≤ 1099511627776) (hm : cap ≤ maxLen) :
  Calls Tryz.prog 57 #[bv, .slice a 0 cap] w fun e w' => ∃ v, e = .returned v ∧ w'.ownsRow w.heap.size 5 1 v bl.length (bl.map bval) ∧ Below w.heap.size w w' := by
 unfold maxLen at hm
 have HR := jh (room_any 0 w hb (by omega))
 clear hb
 go_enter Tryz.func57, Tryz.ntmps57
 go_wp2_with fail
 refine HR.out.mono ?_
 rintro e w1 ⟨v1, rfl, hown1, hbel1⟩
 have HO1 := jh hown1
 have HB1 := jh hbel1
 clear hown1 hbel1
 go_wp2_with fail
 refine wp_loop_rounds 1 ?_
 rw [rounds_succ]
 go_wp2_with fail
 go_ret
 exact ⟨_, rfl, HO1.out, HB1.out⟩
theorem pint_own {bv lv : Value} {bl : List UInt8} {ns : List Int} (w : World) (hb : Row1 w bv (bl.map bval)) (hl : Row1 w lv (ns.map (.int .i64))) (hsz : bl.length + 8 * ns.length ≤ 1099511627776) :
  Calls Tryz.prog 57 #[bv, lv] w fun e w' => ∃ v, e = .returned v ∧ w'.ownsRow w.heap.size 5 1 v (bl.length + 8 * ns.length) ((bl ++ be8s ns).map bval) ∧ Below w.heap.size w w' := by
 obtain ⟨a, cap, rfl, h1, h2, h3, h4⟩ := hl
 rw [List.length_map] at h1 ⊢
 by_cases h0 : ns = []
 ·subst h0
  have := pint_none bv bl a cap w hb (by omega) h2
  simpa [be8s] using this
 ·obtain ⟨b, off, rfl, hbw, hc⟩ := h4 (by simpa using h0)
  exact pint_loop bv bl b off cap ns.length ns w hb rfl (List.length_pos_iff.2 h0) h1 h2 hbw (pck_row_nums hc) hsz
section
section
variable {P : Program}
theorem run_bytes_row (w : World) (src dst e : TypeId) (l : List UInt8) {u : TypeDesc} (hs : P.underlying src = some u) (hd : P.underlying dst = some (.slice e)) (he : P.underlying e = some (.int .u8)) (hl : l.length ≤ maxLen) :
  ∃ a c w', (convert src dst (.string ⟨l.toArray⟩)).run P w = .ok (.slice a l.length c) w' ∧ Row1 w' (.slice a l.length c) (l.map bval) ∧ Ext w w' := by
 have hsz : (⟨l.toArray⟩ : ByteArray).size = l.length := by simp [ByteArray.size]
 refine ⟨some ⟨w.heap.size, 0, none⟩, grownCap w l.length 0 e, Lib.bytesWorld w e ⟨l.toArray⟩, ?_, ?_, ?_⟩
 ·rw [Lib.run_convert_string_bytes w src dst e ⟨l.toArray⟩ hs hd he, hsz]
 ·have hll : (l.map bval).length = l.length := List.length_map _
  refine ⟨_, _, by rw [hll], ?_, grownCap_le_maxLen _ _ _ _ hl, (fun e => by cases e), fun _ => ⟨w.heap.size, 0, rfl, ?_, fun i hi => ?_⟩⟩
  ·rw [hll]
   exact grownCap_ge _ _ _ _
  ·rw [Lib.bytesWorld_size]
   omega
  ·rw [hll] at hi
   rw [Nat.zero_add, Lib.bytesWorld_cell w e ⟨l.toArray⟩ i (by rw [hsz]; exact hi), (by simp [bval, List.getD, hi] : (l.map bval)[i]? = some (.int .u8 ((l.getD i 0).toNat : Int)))]
 ·have h : ∀ j, j < w.heap.size → (Lib.bytesWorld w e ⟨l.toArray⟩).heap[j]? = w.heap[j]? := fun j hj => Lib.bytesWorld_at_old w e _ j hj
  exact ⟨rfl, rfl, rfl, by rw [Lib.bytesWorld_size]; omega, fun k hk => h k hk⟩
end
end
end Go.Proofs.YthafgicndklgfaaGreatDoor
