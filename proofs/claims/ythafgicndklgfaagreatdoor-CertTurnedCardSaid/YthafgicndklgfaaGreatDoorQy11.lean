/- Lemmas. -/
import Derived.Test.YthafgicndklgfaaGreatDoorQy10
namespace Go.Proofs.YthafgicndklgfaaGreatDoor
set_option linter.unusedVariables false
set_option maxRecDepth 100000
set_option maxHeartbeats 32000000
set_option linter.unusedSimpArgs false
open Go.RowKit
theorem base_nb : nbF (4 * fi 5) = encB bP := by
 have h5 : (5 : Fp) ≠ 0 := by decide +kernel
 have hi := f_inv h5
 have hy : bP.y * 5 = 4 := by decide +kernel
 have e : (4 : Fp) * fi 5 = bP.y := by
  rw [← hy, Fin.mul_assoc, hi, Fin.mul_one]
 have hx : bP.x.val % 2 = 0 := by decide +kernel
 rw [e]
 unfold encB enc
 rw [hx, Nat.mul_zero, Nat.add_zero]
 rfl
theorem cdec_base (w : World) (f : Fp) (hf : f = 4 * fi 5) (hG : GlobC w) : Calls Tryz.prog 49 #[.agg ((nbF f).map bval).toArray] w fun e w' => e = .returned (.tuple #[.agg (ptF bP.es).toArray, .bool true]) ∧ Below w.heap.size w w' := by
 subst hf
 have h := cdecoded_f w (nbF (4 * fi 5)) (zae _) hG
 rw [base_nb] at h ⊢
 rw [decE_enc, zef ⟨bP, rfl⟩] at h
 exact h
theorem cbase_f (w : World) (hG : GlobC w) : Calls Tryz.prog 53 #[] w fun e w' => e = .returned (.agg (ptF bP.es).toArray) ∧ Below w.heap.size w w' := by
 have HGC := jh hG
 clear hG
 have HB := jh (zfo w zq 85)
 go_enter Tryz.func53, Tryz.ntmps53
 go_upto_region 1 with (fail)
 obtain ⟨H1, HE⟩ := HB.out
 change Code.wp _ _ _ _ (World.alloc w (.cells zq.toArray 85))
 generalize (World.alloc w (.cells zq.toArray 85)) = wa at *
 obtain ⟨A, hA⟩ : ∃ A, A = w.heap.size := ⟨_, rfl⟩
 have HAW : Hid (w.heap.size ≤ A) := jh (by omega)
 rw [← hA] at H1 ⊢
 have H1 := jh H1
 have HE : Hid (Ext w wa) := jh HE
 clear hA HB
 obtain ⟨f4, h4⟩ : ∃ f, f = (4 : Fp) := ⟨_, rfl⟩
 obtain ⟨f5, h5⟩ : ∃ f, f = (5 : Fp) := ⟨_, rfl⟩
 have HB4 := jh build_nb4
 have HB5 := jh build_nb5
 rw [← h4] at HB4
 rw [← h5] at HB5
 have HF4 := jh h4
 have HF5 := jh h5
 clear h4 h5
 go_wp2_with (first | (refine zbf rfl 23 #[(0, .const (.int .u8 4))] rfl #[(0, .int .u8 4)] (by simp [Act.eval]) (.agg ((nbF f4).map bval).toArray) (HB4.out _) ?_) | (refine zbf rfl 23 #[(0, .const (.int .u8 5))] rfl #[(0, .int .u8 5)] (by simp [Act.eval]) (.agg ((nbF f5).map bval).toArray) (HB5.out _) ?_))
 refine (finv_f _ (F32.nb f5)).mono ?_
 rintro e w5 ⟨rfl, hb⟩
 have H1 := xb H1 hb
 have HE := xt HE hb
 clear hb
 go_wp2_with fail
 refine (fmul_f _ (F32.nb f4) (F32.nb (fi f5))).mono ?_
 rintro e w6 ⟨rfl, hb⟩
 have H1 := xb H1 hb
 have HE := xt HE hb
 clear hb
 go_wp2_with fail
 refine (cdec_base _ _ (by rw [HF4.out, HF5.out]) (HGC.out.ext HE.out)).mono ?_
 rintro e w8 ⟨rfl, hb⟩
 have H1 := xb H1 hb
 have HE := xt HE hb
 clear hb
 obtain ⟨es, hes⟩ : ∃ k, k = bP.es := ⟨_, rfl⟩
 rw [← hes]
 have HES := jh hes
 clear hes
 have HZ := jh (Blk.made w8 zq 85)
 have HEA := jh (Ext.alloc w8 (.cells zq.toArray 85))
 have HL : Hid ((ptF es).length = zq.length) := jh ((zat _).trans zq_length.symm)
 go_upto_region 2 with (refine ssb w8.heap.size (ptF es) HZ.out HL.out (zar _) (zcf _) ?_; intro w7 hb hg)
 have HX := jh (zab HEA.out hg (q102 _))
 generalize w8.heap.size = pb at *
 have H1 := xb H1 HX.out
 have HE := xt HE HX.out
 have HV := jh hb
 clear hb hg HX HZ HEA
 go_wp2_with (first | (refine wpList_load_mid rfl _ _ rfl pb 0 rfl _ _ HV.out.range q113 rfl (zar _) ?_) | (refine ssb A (ptF es) H1.out HL.out (zar _) (zcf _) ?_; intro w9 hb9 hg9))
 exact bodyPost_ret (zap (by rfl) _ A _ _ _ (by rfl) hb9 q113 rfl (zar _)) rfl ⟨by rw [HES.out], zab HE.out hg9 (by have := HAW.out; omega)⟩
theorem CMay_num (n : List UInt8) (w : World) (hn : n.length = 32) (hG : GlobC w) : Calls Tryz.prog 27 #[.agg (n.map bval).toArray] w fun e w' => e = .returned (.bool (mayB n)) ∧ Below w.heap.size w w' := by
 have HNL := jh hn
 clear hn
 have HGC := jh hG
 clear hG
 have HB := jh (zfo w (n.map bval) 23)
 go_enter Tryz.func27, Tryz.ntmps27
 go_upto_region 1 with (fail)
 obtain ⟨H1, HE⟩ := HB.out
 change Code.wp _ _ _ _ (World.alloc w (.cells (n.map bval).toArray 23))
 generalize (World.alloc w (.cells (n.map bval).toArray 23)) = wa at *
 obtain ⟨A, hA⟩ : ∃ A, A = w.heap.size := ⟨_, rfl⟩
 have HAW : Hid (w.heap.size ≤ A) := jh (by omega)
 rw [← hA] at H1 ⊢
 have H1 := jh H1
 have HE : Hid (Ext w wa) := jh HE
 clear hA HB
 go_wp2_with (first | (refine wpList_load_mid rfl _ _ rfl A 0 rfl _ _ (H1.out.range) q100 rfl (zac HNL.out) ?_))
 refine (cdecoded_f _ n HNL.out (HGC.out.ext HE.out)).mono ?_
 rintro e w8 ⟨rfl, hb⟩
 have H1 := xb H1 hb
 have HE := xt HE hb
 clear hb
 obtain ⟨es, hes⟩ : ∃ k, k = decE n := ⟨_, rfl⟩
 rw [← hes]
 clear hes
 obtain ⟨mb, hmb⟩ : ∃ k, k = mayB n := ⟨_, rfl⟩
 rw [← hmb]
 have HMB := jh hmb
 clear hmb
 have HZ := jh (Blk.made w8 zq 85)
 have HEA := jh (Ext.alloc w8 (.cells zq.toArray 85))
 have HL : Hid ((ptF es).length = zq.length) := jh ((zat _).trans zq_length.symm)
 go_upto_region 2 with (refine ssb w8.heap.size (ptF es) HZ.out HL.out (zar _) (zcf _) ?_; intro w7 hb hg)
 have HX := jh (zab HEA.out hg (q102 _))
 have HE := xt HE HX.out
 clear hb hg HX HZ HEA HL
 go_wp2_with fail
 go_ret
 exact ⟨by rw [HMB.out]; rfl, HE.out⟩
theorem u8_shl7_int (b : UInt8) : (b.toNat : Int) * (128 : Int) % (256 : Int) = ((b <<< 7).toNat : Int) := by
 have hh : ∀ n : Fin 256, ((UInt8.ofNat n.val).toNat : Int) * (128 : Int) % (256 : Int) = (((UInt8.ofNat n.val) <<< 7).toNat : Int) := by decide +kernel
 have := hh ⟨b.toNat, b.toNat_lt⟩
 simpa using this
theorem cencoded_f (w : World) (s : ES) : Calls Tryz.prog 51 #[.agg (ptF s).toArray] w fun e w' => e = .returned (.agg ((encS s).map bval).toArray) ∧ Below w.heap.size w w' := by
 have HB := jh (boxes2 w (ptF s) (ints .u8 (List.replicate 32 0)) 85 23)
 go_enter Tryz.func51, Tryz.ntmps51
 go_upto_region 1 with (fail)
 obtain ⟨H1, H2, HE⟩ := HB.out
 change Code.wp _ _ _ _ (World.alloc (World.alloc w (.cells (ptF s).toArray 85)) (.cells (ints .u8 (List.replicate 32 0)).toArray 23))
 generalize (World.alloc (World.alloc w (.cells (ptF s).toArray 85)) (.cells (ints .u8 (List.replicate 32 0)).toArray 23)) = wa at *
 obtain ⟨A, hA⟩ : ∃ A, A = w.heap.size := ⟨_, rfl⟩
 have HAW : Hid (w.heap.size ≤ A) := jh (by omega)
 rw [← hA] at H1 H2 ⊢
 have H1 := jh H1
 have H2 := jh H2
 have HE : Hid (Ext w wa) := jh HE
 clear hA HB
 obtain ⟨fz, hfz⟩ : ∃ k, k = fi s.z := ⟨_, rfl⟩
 have HFZ := jh hfz
 go_wp2_with (first | (refine wpList_load_mid rfl _ _ rfl A 64 rfl _ _ (ptF_z (H1.out.range) rfl) q100 rfl (zac (zae _)) ?_))
 refine (finv_f _ (F32.nb s.z)).mono ?_
 rintro e w5 ⟨rfl, hb⟩
 have H1 := xb H1 hb
 have H2 := xb H2 hb
 have HE := xt HE hb
 rw [← hfz]
 clear hb hfz
 have HZ := jh (Blk.made w5 (ints .u8 (List.replicate 32 0)) 23)
 have HEA := jh (Ext.alloc w5 (.cells (ints .u8 (List.replicate 32 0)).toArray 23))
 have HL : Hid (((nbF fz).map bval).length = (ints .u8 (List.replicate 32 0)).length) := jh (by rw [q101, zae]; rfl)
 go_upto_region 2 with (refine ssb w5.heap.size ((nbF fz).map bval) HZ.out HL.out (zac (zae _)) (zaf _) ?_; intro w7 hb hg)
 have HX := jh (zab HEA.out hg (q102 _))
 obtain ⟨pi, hT⟩ : ∃ T, T = w5.heap.size := ⟨_, rfl⟩
 rw [← hT] at hb ⊢
 clear hT
 have H1 := xb H1 HX.out
 have H2 := xb H2 HX.out
 have HE := xt HE HX.out
 have HVi := jh hb
 clear hb hg HX HZ HEA HL
 generalize w7 = wi at *
 go_wp2_with fail
 have HLA := jh H2.out.lt
 refine swf 8 4 10 ?_
 refine zbd _ _ A _ 0 0 (by rfl) rfl rfl (fun w => by go_simp) ?_
 simp only [nm]
 refine sdk A 0 ((nbF s.x).map bval) (fun w hw => ptF_x ((zad H1.out hw).range)) q100 (zac (zae _)) ?_
 simp only [nm]
 refine sdk pi 0 ((nbF fz).map bval) (fun w hw => (zad HVi.out hw).range) q100 (zac (zae _)) ?_
 simp only [nm]
 refine sdc [.agg ((nbF s.x).map bval).toArray, .agg ((nbF fz).map bval).toArray] (.agg ((nbF (s.x * fz)).map bval).toArray) q143 (fun w hw => fmul_f w (F32.nb _) (F32.nb _)) ?_
 simp only [nm]
 refine zbd _ _ A _ 0 32 (by rfl) rfl rfl (fun w => by go_simp) ?_
 simp only [nm]
 refine sdk A 32 ((nbF s.y).map bval) (fun w hw => ptF_y ((zad H1.out hw).range) rfl) q100 (zac (zae _)) ?_
 simp only [nm]
 refine sdk pi 0 ((nbF fz).map bval) (fun w hw => (zad HVi.out hw).range) q100 (zac (zae _)) ?_
 simp only [nm]
 refine sdc [.agg ((nbF s.y).map bval).toArray, .agg ((nbF fz).map bval).toArray] (.agg ((nbF (s.y * fz)).map bval).toArray) q143 (fun w hw => fmul_f w (F32.nb _) (F32.nb _)) ?_
 simp only [nm]
 refine zao (end_var2 (k := 8) 23 4 5 (.tmp 12) (.tmp 16) (ints .u8 (List.replicate 32 0)) ((nbF (s.x * fz)).map bval) ((nbF (s.y * fz)).map bval) rfl rfl rfl rfl (by kernel_rfl) (by kernel_rfl) (by kernel_rfl) (by kernel_rfl) (by kernel_rfl) (by kernel_rfl) (by kernel_rfl) (by kernel_rfl) (by kernel_rfl) (by kernel_rfl) rfl rfl rfl rfl rfl rfl rfl rfl (by decide) (fun w => by rw [q109]; rfl) rfl rfl rfl rfl (by simp) (by simp) (fun p q => rfl) (fun p q => rfl) (by rw [q101, zae]; rfl) (by rw [q101, zae]; rfl) (zac (zae _)) (zac (zae _)) (zaf _) (zaf _) (fun px py wy hpq hp1 hp2 hb1 hb2 he => ?_))
 try simp only [nm]
 have H1 := xb H1 he
 have H2 := xb H2 he
 have HVi := xb HVi he
 have HE := xt HE he
 have HPQ := jh hpq
 have HPx := jh hp1
 have HPy := jh hp2
 clear he hpq hp1 hp2
 obtain ⟨vx, hq⟩ : ∃ kk, kk = (s.x * fz) := ⟨_, rfl⟩
 rw [← hq] at hb1
 have HQx := jh hq
 clear hq
 have HVx := jh hb1
 obtain ⟨vy, hq⟩ : ∃ kk, kk = (s.y * fz) := ⟨_, rfl⟩
 rw [← hq] at hb2
 have HQy := jh hq
 clear hq
 have HVy := jh hb2
 clear hb1 hb2
 have HLT : Hid (A + 1 < py) := jh (q114 HLA.out HPy.out)
 have hqe : encS s = (nbF vy).set 31 ((nbF vy).getD 31 0 ||| ((nbF vx).getD 0 0 <<< 7)) := by rw [HQx.out, HQy.out, HFZ.out]; rfl
 have HQE := jh hqe
 have HEL := jh (encS_length s)
 obtain ⟨en, hen⟩ : ∃ k, k = encS s := ⟨_, rfl⟩
 rw [← hen] at hqe HEL
 have HEN := jh hen
 have c0 := HVx.out.cell 0
 rw [zbg (by rw [zae]; omega)] at c0
 have c1 := HVy.out.cell 31
 rw [zbg (by rw [zae]; omega)] at c1
 have f1 := HVy.out.free 31
 have hsh := u8_shl7_int ((nbF vx).getD 0 0)
 have hor := u8_or ((nbF vy).getD 31 0) ((nbF vx).getD 0 0 <<< 7)
 have HX1 : Hid (((nbF vy).map bval).set 31 (.int .u8 ((((nbF vy).getD 31 0 ||| ((nbF vx).getD 0 0 <<< 7)).toNat : Nat) : Int)) = en.map bval) := jh (by rw [u8_set, hqe])
 clear hqe hen
 generalize ((((nbF vy).getD 31 0 ||| ((nbF vx).getD 0 0 <<< 7)).toNat : Nat) : Int) = q3 at *
 generalize ((((nbF vx).getD 0 0 <<< 7).toNat : Nat) : Int) = q2 at *
 generalize (((nbF vx).getD 0 0).toNat : Int) = q0 at *
 generalize (((nbF vy).getD 31 0).toNat : Int) = q1 at *
 go_upto_region 4 with (fail)
 try rw [show (q0 * 128 % 256 : Int) = q2 from hsh]
 try rw [hor]
 have HM := jh (HVy.out.set 31 (.int .u8 q3))
 rw [HX1.out] at HM
 have HR := jh (H2.out.far (a := ⟨py, 31, none⟩) (by have h0 := HPy.out; have h1 := H2.out.lt; simp; exact fun e => by have := HLT.out; omega) (.int .u8 q3))
 have HE := jh (Below.setCell HE.out (p := ⟨py, 31, none⟩) (by have := HLT.out; have := HAW.out; simp; omega) (.int .u8 q3))
 generalize wy.setCell ⟨py, 31, none⟩ (.int .u8 q3) = wz at *
 have HE : Hid (Ext w wz) := jh HE.out
 clear c0 c1 f1 HX1 hsh hor
 have HL : Hid ((en.map bval).length = (ints .u8 (List.replicate 32 0)).length) := jh (by rw [q101, HEL.out, zaa]; rfl)
 go_wp2_with (first | (refine slb py HM.out q100 (zac HEL.out) ?_) | (refine ssb (A + 1) (en.map bval) HR.out HL.out (zac HEL.out) (zaf _) ?_; intro w9 hb9 hg9))
 refine bodyPost_ret (zbc rfl _ (A + 1) _ _ _ _ rfl hb9 q100 (zac HEL.out)) rfl ?_
 exact ⟨by rw [HEN.out], zab HE.out hg9 (by have := HAW.out; omega)⟩
theorem cbit_any (n : List UInt8) (i : Nat) (w : World) (hn : n.length = 32) (hi : i < 256) : Calls Tryz.prog 95 #[.agg (n.map bval).toArray, .int .i64 (i : Int)] w fun e w' => e = .returned (.int .u8 (((leN n).testBit i).toNat : Nat)) ∧ Below w.heap.size w w' := by
 have HNL := jh hn
 have HB := jh (zfo w (n.map bval) 23)
 obtain ⟨q, hq⟩ : ∃ q, q = i / 8 := ⟨_, rfl⟩
 obtain ⟨r, hr⟩ : ∃ r, r = i % 8 := ⟨_, rfl⟩
 have q1 : (i : Int) / 8 = (q : Int) := by omega
 have r1 : (i : Int) % 8 = (r : Int) := by omega
 have r2 : (i : Int).tmod 8 = (r : Int) := by rw [Int.tmod_eq_emod_of_nonneg (by omega)]; exact r1
 have q2 : (i : Int).tdiv 8 = (q : Int) := by rw [Int.tdiv_eq_ediv_of_nonneg (by omega)]; exact q1
 have q3 : (q : Int) < 32 := by omega
 have r3 : (r : Int) < 8 := by omega
 have q0 : (0 : Int) ≤ (q : Int) := Int.natCast_nonneg _
 have r0 : (0 : Int) ≤ (r : Int) := Int.natCast_nonneg _
 have i0 : (0 : Int) ≤ (i : Int) := Int.natCast_nonneg _
 have HQ := jh hq
 have HRR := jh hr
 clear hn hq hr
 go_enter Tryz.func95, Tryz.ntmps95
 go_upto_region 1 with (fail)
 obtain ⟨H1, HE⟩ := HB.out
 change Code.wp _ _ _ _ (w.alloc (.cells (n.map bval).toArray 23))
 generalize w.alloc (.cells (n.map bval).toArray 23) = wa at *
 obtain ⟨A, hA⟩ : ∃ A, A = w.heap.size := ⟨_, rfl⟩
 rw [← hA] at H1 ⊢
 have H1 := jh H1
 have HE : Hid (Ext w wa) := jh HE
 clear hA HB
 have c0 := H1.out.cell q
 rw [zbg (by rw [HNL.out]; omega)] at c0
 generalize hbt : (n.getD q 0).toNat = bt at *
 have HBT := jh hbt
 clear hbt
 go_wp2_with fail
 go_ret
 refine ⟨?_, HE.out⟩
 have hb := leN_bit n i (by have := HNL.out; omega)
 rw [← HQ.out, HBT.out, ← HRR.out] at hb
 have hc : (bt : Int) / 2 ^ r = ((bt / 2 ^ r : Nat) : Int) := by
  rw [Int.natCast_ediv, Int.natCast_pow]
  rfl
 rw [hc, andU1, ← hb, Nat.testBit_eq_decide_div_mod_eq]
 have h2 : leN n / 2 ^ i % 2 < 2 := q140 _ (by omega)
 generalize leN n / 2 ^ i % 2 = z at *
 rcases (by omega : z = 0 ∨ z = 1) with rfl | rfl <;> rfl
theorem cbit_t (n : List UInt8) (i : Nat) (w : World) (b : Bool) (hn : n.length = 32) (hi : i < 256) (hb : (leN n).testBit i = b) : Calls Tryz.prog 95 #[.agg (n.map bval).toArray, .int .i64 (i : Int)] w fun e w' => e = .returned (.int .u8 ((b.toNat : Nat) : Int)) ∧ Below w.heap.size w w' := by
 have h := cbit_any n i w hn hi
 rwa [hb] at h
theorem ctimes_f (w : World) (n : List UInt8) (p : ES) (hn : n.length = 32) (hG : GlobC w) : Calls Tryz.prog 52 #[.agg (n.map bval).toArray, .agg (ptF p).toArray] w fun e w' => e = .returned (.agg (ptF (crun p (leN n) 255)).toArray) ∧ Below w.heap.size w w' := by
 have HNL := jh hn
 clear hn
 have HGC := jh hG
 clear hG
 have HB := jh (boxes3 w (n.map bval) (ptF p) zq 23 85 85)
 go_enter Tryz.func52, Tryz.ntmps52
 go_upto_region 1 with (fail)
 obtain ⟨H1, H2, H3, HE⟩ := HB.out
 change Code.wp _ _ _ _ (World.alloc (World.alloc (World.alloc w (.cells (n.map bval).toArray 23)) (.cells (ptF p).toArray 85)) (.cells zq.toArray 85))
 generalize (World.alloc (World.alloc (World.alloc w (.cells (n.map bval).toArray 23)) (.cells (ptF p).toArray 85)) (.cells zq.toArray 85)) = wa at *
 obtain ⟨A, hA⟩ : ∃ A, A = w.heap.size := ⟨_, rfl⟩
 have HAW : Hid (w.heap.size ≤ A) := jh (by omega)
 rw [← hA] at H1 H2 H3 ⊢
 have H1 := jh H1
 have H2 := jh H2
 have H3 := jh H3
 have HE : Hid (Ext w wa) := jh HE
 clear hA HB
 go_wp2_with fail
 refine (czero_f _).mono ?_
 rintro e w5 ⟨rfl, hb⟩
 have H1 := xb H1 hb
 have H2 := xb H2 hb
 have H3 := xb H3 hb
 have HE := xt HE hb
 clear hb
 have HZ := jh (Blk.made w5 zq 85)
 have HEA := jh (Ext.alloc w5 (.cells zq.toArray 85))
 have HL : Hid ((ptF esZero).length = zq.length) := jh ((zat _).trans zq_length.symm)
 have HLT := jh (H3.out.lt)
 go_upto_region 2 with (refine ssb w5.heap.size (ptF esZero) HZ.out HL.out (zar _) (zcf _) ?_; intro w7 hb hg)
 have HX := jh (zab HEA.out hg (q102 _))
 obtain ⟨po, hT⟩ : ∃ T, T = w5.heap.size := ⟨_, rfl⟩
 rw [← hT] at hb HLT ⊢
 clear hT
 have H1 := xb H1 HX.out
 have H2 := xb H2 HX.out
 have H3 := xb H3 HX.out
 have HE := xt HE HX.out
 have HVo := jh hb
 clear hb hg HX HZ HEA HL
 generalize w7 = wo at *
 go_wp2_with fail
 go_loopw [6] (fun i wr => ∃ k : Nat, k ≤ 255 ∧ i = .int .i64 (254 - (k : Int)) ∧ Blk wr po (ptF (crun p (leN n) k)) 85 ∧ Blk wr A (n.map bval) 23 ∧ Blk wr (A + 1) (ptF p) 85 ∧ Blk wr (A + 1 + 1) zq 85 ∧ Ext w wr) (fun i _ => (intOf i + 1).toNat)
 case atStart => exact ⟨0, by omega, rfl, HVo.out, H1.out, H2.out, H3.out, HE.out⟩
 case round =>
  clear HVo H1 H2 H3 HE
  obtain ⟨k, hk, rfl, q1, q2, q3, q4, q5⟩ := hrel
  have i0' : (0 : Int) ≤ (k : Int) := Int.natCast_nonneg _
  obtain ⟨s, hs⟩ : ∃ s, s = crun p (leN n) k := ⟨_, rfl⟩
  rw [← hs] at q1
  have HVo := jh q1
  have H1 := jh q2
  have H2 := jh q3
  have H3 := jh q4
  have HE := jh q5
  clear q1 q2 q3 q4 q5
  by_cases hlt : k < 255
  ·have i1 : (0 : Int) ≤ 254 - (k : Int) := by omega
   obtain ⟨m, hm⟩ : ∃ m, m = 254 - k := ⟨_, rfl⟩
   have hmi : 254 - (k : Int) = (m : Int) := by omega
   obtain ⟨t, ht⟩ : ∃ t, t = (leN n).testBit m := ⟨_, rfl⟩
   have HST : Hid (crun p (leN n) (k + 1) = ES.pk t s.dbl (s.dbl.sum p)) := jh (by rw [crun, ← hm, ← ht, ← hs])
   have HTT := jh ht.symm
   have HMI := jh hmi
   have hmk : m ≤ 254 := by omega
   have HMK := jh hmk
   have HTB : Hid (decide (((t.toNat : Nat) : Int) = 1) = t) := jh (by cases t <;> rfl)
   clear ht hm hmi hmk hs
   go_wp2_with (first | (refine wpList_load_mid rfl _ _ rfl po 0 rfl _ _ (HVo.out.range) q113 rfl (zar _) ?_))
   refine (ctwice_f _ _).mono ?_
   rintro e wb ⟨rfl, hb⟩
   have H1 := xb H1 hb
   have H2 := xb H2 hb
   have H3 := xb H3 hb
   have HVo := xb HVo hb
   have HE := xt HE hb
   clear hb
   obtain ⟨sd, hsd⟩ : ∃ sd, sd = s.dbl := ⟨_, rfl⟩
   rw [← hsd]
   have HSD := jh hsd
   clear hsd
   have HL : Hid ((ptF sd).length = (ptF s).length) := jh (by rw [zat, zat])
   go_upto_region 6 with (refine ssb po (ptF sd) HVo.out HL.out (zar _) (zcf _) ?_; intro wc hb2 hg2)
   have H1 := jh (H1.out.grown hg2 (by have := HLT.out; simp; omega))
   have H2 := jh (H2.out.grown hg2 (by have := HLT.out; simp; omega))
   have H3 := jh (H3.out.grown hg2 (by have := HLT.out; simp; omega))
   have HE := jh (zab HE.out hg2 (by have := HLT.out; have := HAW.out; omega))
   have HVo := jh hb2
   clear hb2 hg2 HL
   go_wp2_with fail
   refine swf 9 1 9 ?_
   refine sdk po 0 (ptF sd) (fun w hw => (zad HVo.out hw).range) q113 (zar _) ?_
   simp only [nm]
   refine sdk po 0 (ptF sd) (fun w hw => (zad HVo.out hw).range) q113 (zar _) ?_
   simp only [nm]
   refine sdk (A + 1) 0 (ptF p) (fun w hw => (zad H2.out hw).range) q113 (zar _) ?_
   simp only [nm]
   refine sdc [.agg (ptF sd).toArray, .agg (ptF p).toArray] (.agg (ptF (sd.sum p)).toArray) Tryz.call94 (fun w hw => csum_f w sd p (HGC.out.ext (HE.out.trans hw))) ?_
   simp only [nm]
   refine sdk A 0 (n.map bval) (fun w hw => (zad H1.out hw).range) q100 (zac HNL.out) ?_
   simp only [nm]
   refine zas _ (.int .i64 (m : Int)) (by rfl) rfl (by show Value.int .i64 (254 - (k : Int)) = _; rw [HMI.out]) ?_
   simp only [nm]
   refine sdc [.agg (n.map bval).toArray, .int .i64 (m : Int)] (.int .u8 ((t.toNat : Nat) : Int)) Tryz.call95 (fun w hw => cbit_t n m w t HNL.out (by have := HMK.out; omega) HTT.out) ?_
   simp only [nm]
   refine det_eqi .u8 _ _ _ _ _ _ t (by rfl) rfl rfl rfl HTB.out ?_
   simp only [nm]
   refine sdc [.agg (ptF sd).toArray, .agg (ptF (sd.sum p)).toArray, .bool t] (.agg (ptF (ES.pk t sd (sd.sum p))).toArray) Tryz.call93 (fun w hw => cpick_f w t sd (sd.sum p)) ?_
   simp only [nm]
   refine zao (zec (k := 9) _ _ _ _ po (ptF (ES.pk t sd (sd.sum p))) (ptF sd) rfl (by kernel_rfl) (by kernel_rfl) (by kernel_rfl) rfl rfl rfl rfl HVo.out (by rw [zat, zat]) (zar _) (zcf _) (fun w8 hb8 hg8 => ?_))
   simp only [Act.put]
   go_wp2_with fail
   go_roundw
   case rel =>
    refine ⟨k + 1, by omega, by go_num, by rw [HST.out, ← HSD.out]; exact hb8, H1.out.grown hg8 (by have := HLT.out; simp; omega), H2.out.grown hg8 (by have := HLT.out; simp; omega), H3.out.grown hg8 (by have := HLT.out; simp; omega), zab HE.out hg8 (by have := HLT.out; have := HAW.out; omega)⟩
   case measure => simp [intOf]; omega
  ·have hk' : k = 255 := by omega
   subst hk'
   have HS := jh hs
   clear hs
   have HL : Hid ((ptF s).length = zq.length) := jh ((zat _).trans zq_length.symm)
   go_wp2_with (first | (refine wpList_load_mid rfl _ _ rfl po 0 rfl _ _ HVo.out.range q113 rfl (zar _) ?_) | (refine ssb (A + 1 + 1) (ptF s) H3.out HL.out (zar _) (zcf _) ?_; intro w9 hb9 hg9))
   exact bodyPost_ret (zap (by rfl) _ (A + 1 + 1) _ _ _ (by rfl) hb9 q113 rfl (zar _)) rfl ⟨by rw [HS.out], zab HE.out hg9 (by have := HAW.out; omega)⟩
section
section
variable {P : Program} {ops : Array Oper} {Q : Exit → Act → World → Prop} {md : Region.Mode} {t : Nat} {C : World → Prop} {D : Act → Prop}
theorem det_indexm {o : Oper} {rest : List Oper} {a : Act} (ty e : TypeId) (x y : Operand) (c n sz : Nat) (k : IntKind) (j q : Nat) (hw : Region.wanted o (yielded ops a.tmps) = true) (ho : o.op = .indexAddr ty x y) (hx : a.eval x = .pointer (some ⟨c, 0, none⟩)) (hy : a.eval y = .int k (j : Int))
  (hu : P.underlying ty = some (.array n e)) (hj : j < n) (hs : ∀ w, (sizeOf e).run P w = .ok sz w) (hq : j * sz = q)
  (next : wpDet P ops C D rest (a.put o.dst (.pointer (some ⟨c, q, none⟩)))) : wpDet P ops C D (o :: rest) a :=
 zaw _ hw (fun w _ => by
  subst hq
  have h1 : (0 : Int) ≤ (j : Int) ∧ (j : Int) < (n : Int) := by omega
  unfold execOp
  simp [ho, hx, hy, Instr.indexAt, asIntOf, run_underlying hu, Instr.sureAddr, h1, hs, Addr.add_mid, hj]) next
end
def z4 : List Value := ints .u8 (List.replicate 512 0)
theorem z4_length : z4.length = 512 := by
 unfold z4
 rw [zaa, q133]
def st4 (p q r : ES) : List Value := zq ++ (ptF p ++ (ptF q ++ ptF r))
theorem st4_length (p q r : ES) : (st4 p q r).length = 512 := by simp [st4, zat, zq_length]
theorem st4_one (p q r : ES) : ∀ v ∈ st4 p q r, v.oneCell' = true := by
 intro v hv
 simp only [st4, List.mem_append] at hv
 rcases hv with h | h | h | h
 ·exact zaj _ _ v h
 ·exact zcf _ v h
 ·exact zcf _ v h
 ·exact zcf _ v h
theorem Tryz.arr133 : (Tryz.prog.info? 133).map (·.size) = some 512 := by kernel_rfl
theorem st4_size (p q r : ES) : (Tryz.prog.info? 133).map (·.size) = some (st4 p q r).length := by rw [st4_length]; exact Tryz.arr133
theorem zero_st4 (w : World) : (zeroValue 133).run Tryz.prog w = .ok (.agg z4.toArray) w := by kernel_rfl
theorem size_cpt (w : World) : (sizeOf 85).run Tryz.prog w = .ok 128 w := by kernel_rfl
theorem st4_at1 {w : World} {c : Nat} {p q r : ES} (h : w.rangeAt c 0 (st4 p q r)) : w.rangeAt c 128 (ptF p) := rng_lo (rng_hi h zq_length rfl)
theorem st4_at2 {w : World} {c : Nat} {p q r : ES} (h : w.rangeAt c 0 (st4 p q r)) : w.rangeAt c 256 (ptF q) := rng_lo (rng_hi (rng_hi h zq_length rfl) (zat _) rfl)
theorem st4_at3 {w : World} {c : Nat} {p q r : ES} (h : w.rangeAt c 0 (st4 p q r)) : w.rangeAt c 384 (ptF r) := rng_hi (rng_hi (rng_hi h zq_length rfl) (zat _) rfl) (zat _) rfl
theorem z4_parts : z4 = zq ++ (zq ++ (zq ++ zq)) := by
 unfold z4 zq ints
 rw [← q134, ← q134, ← q134, q174, q174, q174]
theorem fill_st4 {place : Nat → Option (Nat × Nat)} (p1 : place 1 = some (128, 128)) (p2 : place 2 = some (256, 128)) (p3 : place 3 = some (384, 128)) (p q r : ES) :
  Instr.fill place z4.toArray [(1, .agg (ptF p).toArray), (2, .agg (ptF q).toArray), (3, .agg (ptF r).toArray)] = some (st4 p q r).toArray := by
 rw [z4_parts, zfj (off := 128) (n := 128) p1 zq_length zq_length (zat p)]
 rw [show zq ++ (ptF p ++ (zq ++ zq)) = (zq ++ ptF p) ++ (zq ++ zq) by simp, zfj (off := 256) (n := 128) p2 (by simp [zq_length, zat]) zq_length (zat q)]
 rw [show (zq ++ ptF p) ++ (ptF q ++ zq) = (zq ++ ptF p ++ ptF q) ++ (zq ++ []) by simp, zfj (off := 384) (n := 128) p3 (by simp [zq_length, zat]) zq_length (zat r)]
 rw [Instr.fill]
 simp [st4]
theorem build_st4 (p q r : ES) (w : World) : (Instr.build 133 #[(1, .agg (ptF p).toArray), (2, .agg (ptF q).toArray), (3, .agg (ptF r).toArray)]).run Tryz.prog w = .ok (.agg (st4 p q r).toArray) w := by
 refine run_build w _ _ _ ?_
 refine Eq.trans ?_ (fill_st4 (place := fun i => (#[(0, 128), (128, 128), (256, 128), (384, 128)] : Array (Nat × Nat))[i]?) rfl rfl rfl p q r)
 kernel_rfl
theorem ctogether_f (w : World) (m n : List UInt8) (p q : ES) (hm : m.length = 32) (hn : n.length = 32) (hG : GlobC w) : Calls Tryz.prog 63 #[.agg (m.map bval).toArray, .agg (ptF p).toArray, .agg (n.map bval).toArray, .agg (ptF q).toArray] w fun e w' => e = .returned (.agg (ptF (trun p q (leN m) (leN n) 255)).toArray) ∧ Below w.heap.size w w' := by
 have HML := jh hm
 have HNL := jh hn
 clear hm hn
 have HGC := jh hG
 clear hG
 have HB := jh (boxes5 w (m.map bval) (ptF p) (n.map bval) (ptF q) zq 23 85 23 85 85)
 go_enter Tryz.func63, Tryz.ntmps63
 go_upto_region 1 with (fail)
 obtain ⟨H1, H2, H3, H4, H5, HE⟩ := HB.out
 change Code.wp _ _ _ _ (World.alloc (World.alloc (World.alloc (World.alloc (World.alloc w (.cells (m.map bval).toArray 23)) (.cells (ptF p).toArray 85)) (.cells (n.map bval).toArray 23)) (.cells (ptF q).toArray 85)) (.cells zq.toArray 85))
 generalize (World.alloc (World.alloc (World.alloc (World.alloc (World.alloc w (.cells (m.map bval).toArray 23)) (.cells (ptF p).toArray 85)) (.cells (n.map bval).toArray 23)) (.cells (ptF q).toArray 85)) (.cells zq.toArray 85)) = wa at *
 obtain ⟨A, hA⟩ : ∃ A, A = w.heap.size := ⟨_, rfl⟩
 have HAW : Hid (w.heap.size ≤ A) := jh (by omega)
 rw [← hA] at H1 H2 H3 H4 H5 ⊢
 have H1 := jh H1
 have H2 := jh H2
 have H3 := jh H3
 have H4 := jh H4
 have H5 := jh H5
 have HE : Hid (Ext w wa) := jh HE
 clear hA HB
 go_wp2_with fail
 refine (czero_f _).mono ?_
 rintro e w5 ⟨rfl, hb⟩
 have H1 := xb H1 hb
 have H2 := xb H2 hb
 have H3 := xb H3 hb
 have H4 := xb H4 hb
 have H5 := xb H5 hb
 have HE := xt HE hb
 clear hb
 have HZ := jh (Blk.made w5 zq 85)
 have HEA := jh (Ext.alloc w5 (.cells zq.toArray 85))
 have HL : Hid ((ptF esZero).length = zq.length) := jh ((zat _).trans zq_length.symm)
 have HLT := jh (H5.out.lt)
 go_upto_region 2 with (refine ssb w5.heap.size (ptF esZero) HZ.out HL.out (zar _) (zcf _) ?_; intro w7 hb hg)
 have HX := jh (zab HEA.out hg (q102 _))
 obtain ⟨po, hT⟩ : ∃ T, T = w5.heap.size := ⟨_, rfl⟩
 rw [← hT] at hb HLT ⊢
 clear hT
 have H1 := xb H1 HX.out
 have H2 := xb H2 HX.out
 have H3 := xb H3 HX.out
 have H4 := xb H4 HX.out
 have H5 := xb H5 HX.out
 have HE := xt HE HX.out
 have HVo := jh hb
 clear hb hg HX HZ HEA HL
 generalize w7 = wo at *
 go_wp2_with fail
 refine swf 6 2 7 ?_
 have HLO := jh HVo.out.lt
 refine sdk (A + 1) 0 (ptF p) (fun w hw => (zad H2.out hw).range) q113 (zar _) ?_
 simp only [nm]
 refine sdk (A + 1 + 1 + 1) 0 (ptF q) (fun w hw => (zad H4.out hw).range) q113 (zar _) ?_
 simp only [nm]
 refine sdk (A + 1) 0 (ptF p) (fun w hw => (zad H2.out hw).range) q113 (zar _) ?_
 simp only [nm]
 refine sdk (A + 1 + 1 + 1) 0 (ptF q) (fun w hw => (zad H4.out hw).range) q113 (zar _) ?_
 simp only [nm]
 refine sdc [.agg (ptF p).toArray, .agg (ptF q).toArray] (.agg (ptF (p.sum q)).toArray) Tryz.call94 (fun w hw => csum_f w p q (HGC.out.ext (HE.out.trans hw))) ?_
 simp only [nm]
 refine zei _ _ #[(1, .agg (ptF p).toArray), (2, .agg (ptF q).toArray), (3, .agg (ptF (p.sum q)).toArray)] (.agg (st4 p q (p.sum q)).toArray) (by rfl) rfl (by simp [Act.eval]) (fun w => build_st4 p q (p.sum q) w) ?_
 simp only [nm]
 refine zao (zep (k := 6) _ 10 (.tmp 19) z4 (st4 p q (p.sum q)) rfl rfl (by kernel_rfl) (by kernel_rfl) (by kernel_rfl) (by kernel_rfl) (by kernel_rfl) rfl rfl rfl rfl (fun w => zero_st4 w) rfl (by simp) (fun p => rfl) ((st4_length _ _ _).trans z4_length.symm) (st4_size _ _ _) (st4_one _ _ _) (fun pg wg hp hb he => ?_))
 try simp only [nm]
 have H1 := xb H1 he
 have H2 := xb H2 he
 have H3 := xb H3 he
 have H4 := xb H4 he
 have H5 := xb H5 he
 have HVo := xb HVo he
 have HE := xt HE he
 have HPg := jh hp
 clear he hp
 have HVg := jh hb
 clear hb
 have HOG : Hid (po < pg) := jh (q114 HLO.out HPg.out)
 go_wp2_with fail
 go_loopw [11, 12] (fun i u wr => ∃ k : Nat, k ≤ 255 ∧ i = .int .i64 (254 - (k : Int)) ∧ Blk wr po (ptF (trun p q (leN m) (leN n) k)) 85 ∧ Blk wr pg (st4 p q (p.sum q)) 133 ∧ Blk wr A (m.map bval) 23 ∧ Blk wr (A + 1) (ptF p) 85 ∧ Blk wr (A + 1 + 1) (n.map bval) 23 ∧ Blk wr (A + 1 + 1 + 1) (ptF q) 85 ∧ Blk wr (A + 1 + 1 + 1 + 1) zq 85 ∧ Ext w wr) (fun i _ _ => (intOf i + 1).toNat)
 case atStart => exact ⟨0, by omega, rfl, HVo.out, HVg.out, H1.out, H2.out, H3.out, H4.out, H5.out, HE.out⟩
 case round =>
  clear HVo HVg H1 H2 H3 H4 H5 HE
  obtain ⟨k, hk, rfl, q1, q2, q3, q4, q5, q6, q7, q8⟩ := hrel
  have i0' : (0 : Int) ≤ (k : Int) := Int.natCast_nonneg _
  obtain ⟨s, hs⟩ : ∃ s, s = trun p q (leN m) (leN n) k := ⟨_, rfl⟩
  rw [← hs] at q1
  have HVo := jh q1
  have HVg := jh q2
  have H1 := jh q3
  have H2 := jh q4
  have H3 := jh q5
  have H4 := jh q6
  have H5 := jh q7
  have HE := jh q8
  clear q1 q2 q3 q4 q5 q6 q7 q8
  by_cases hlt : k < 255
  ·have i1 : (0 : Int) ≤ 254 - (k : Int) := by omega
   obtain ⟨j, hj⟩ : ∃ j, j = 254 - k := ⟨_, rfl⟩
   have hmi : 254 - (k : Int) = (j : Int) := by omega
   have HST : Hid (trun p q (leN m) (leN n) (k + 1) = tstep p q s.dbl ((leN m).testBit j) ((leN n).testBit j)) := jh (by rw [trun, ← hj, ← hs])
   have HMI := jh hmi
   have hmk : j ≤ 254 := by omega
   have HMK := jh hmk
   clear hj hmi hmk hs
   go_wp2_with (first | (refine wpList_load_mid rfl _ _ rfl po 0 rfl _ _ (HVo.out.range) q113 rfl (zar _) ?_))
   refine (ctwice_f _ _).mono ?_
   rintro e wb ⟨rfl, hb⟩
   have H1 := xb H1 hb
   have H2 := xb H2 hb
   have H3 := xb H3 hb
   have H4 := xb H4 hb
   have H5 := xb H5 hb
   have HVg := xb HVg hb
   have HVo := xb HVo hb
   have HE := xt HE hb
   clear hb
   obtain ⟨sd, hsd⟩ : ∃ sd, sd = s.dbl := ⟨_, rfl⟩
   rw [← hsd]
   rw [← hsd] at HST
   clear hsd
   have HL : Hid ((ptF sd).length = (ptF s).length) := jh (by rw [zat, zat])
   go_upto_region 7 with (refine ssb po (ptF sd) HVo.out HL.out (zar _) (zcf _) ?_; intro wc hb2 hg2)
   have H1 := jh (H1.out.grown hg2 (by have := HLT.out; simp; omega))
   have H2 := jh (H2.out.grown hg2 (by have := HLT.out; simp; omega))
   have H3 := jh (H3.out.grown hg2 (by have := HLT.out; simp; omega))
   have H4 := jh (H4.out.grown hg2 (by have := HLT.out; simp; omega))
   have H5 := jh (H5.out.grown hg2 (by have := HLT.out; simp; omega))
   have HVg := jh (HVg.out.grown hg2 (by have := HOG.out; simp; omega))
   have HE := jh (zab HE.out hg2 (by have := HLT.out; have := HAW.out; omega))
   have HVo := jh hb2
   clear hb2 hg2 HL
   obtain ⟨ta, hta⟩ : ∃ ta, (leN m).testBit j = ta := ⟨_, rfl⟩
   obtain ⟨tb, htb⟩ : ∃ tb, (leN n).testBit j = tb := ⟨_, rfl⟩
   rw [hta, htb] at HST
   have HTA := jh hta
   have HTB := jh htb
   clear hta htb
   cases ta <;> cases tb
   ·go_wp2_with fail
    refine zbb (by kernel_rfl) (by kernel_rfl) ?_
    refine sdk A 0 (m.map bval) (fun w hw => (zad H1.out hw).range) q100 (zac HML.out) ?_
    simp only [nm]
    refine zas _ (.int .i64 (j : Int)) (by rfl) rfl (by show Value.int .i64 (254 - (k : Int)) = _; rw [HMI.out]) ?_
    simp only [nm]
    refine sdc [.agg (m.map bval).toArray, .int .i64 (j : Int)] (.int .u8 0) Tryz.call95 (fun w hw => cbit_t m j w false HML.out (by have := HMK.out; omega) HTA.out) ?_
    simp only [nm]
    refine sdk (A + 1 + 1) 0 (n.map bval) (fun w hw => (zad H3.out hw).range) q100 (zac HNL.out) ?_
    simp only [nm]
    refine zas _ (.int .i64 (j : Int)) (by rfl) rfl (by show Value.int .i64 (254 - (k : Int)) = _; rw [HMI.out]) ?_
    simp only [nm]
    refine sdc [.agg (n.map bval).toArray, .int .i64 (j : Int)] (.int .u8 0) Tryz.call95 (fun w hw => cbit_t n j w false HNL.out (by have := HMK.out; omega) HTB.out) ?_
    simp only [nm]
    refine zfk _ _ _ _ .u8 .u64 0 0 1 (by rfl) rfl rfl rfl (by decide) (by decide) ?_
    simp only [nm]
    refine det_or _ _ _ _ .u8 0 0 0 (by rfl) rfl rfl rfl (by decide) ?_
    simp only [nm]
    refine zbi _ (.int .u8 0) (by rfl) rfl rfl ?_
    simp only [nm]
    refine zao (fun wd hwd => ?_)
    have H1 := xb H1 hwd
    have H2 := xb H2 hwd
    have H3 := xb H3 hwd
    have H4 := xb H4 hwd
    have H5 := xb H5 hwd
    have HVg := xb HVg hwd
    have HVo := xb HVo hwd
    have HE := xt HE hwd
    clear hwd
    go_wp2_with fail
    go_roundw
    case rel => exact ⟨k + 1, by omega, by go_num, by rw [HST.out]; exact HVo.out, HVg.out, H1.out, H2.out, H3.out, H4.out, H5.out, HE.out⟩
    case measure => simp [intOf]; omega
   ·go_wp2_with fail
    refine zbb (by kernel_rfl) (by kernel_rfl) ?_
    refine sdk A 0 (m.map bval) (fun w hw => (zad H1.out hw).range) q100 (zac HML.out) ?_
    simp only [nm]
    refine zas _ (.int .i64 (j : Int)) (by rfl) rfl (by show Value.int .i64 (254 - (k : Int)) = _; rw [HMI.out]) ?_
    simp only [nm]
    refine sdc [.agg (m.map bval).toArray, .int .i64 (j : Int)] (.int .u8 0) Tryz.call95 (fun w hw => cbit_t m j w false HML.out (by have := HMK.out; omega) HTA.out) ?_
    simp only [nm]
    refine sdk (A + 1 + 1) 0 (n.map bval) (fun w hw => (zad H3.out hw).range) q100 (zac HNL.out) ?_
    simp only [nm]
    refine zas _ (.int .i64 (j : Int)) (by rfl) rfl (by show Value.int .i64 (254 - (k : Int)) = _; rw [HMI.out]) ?_
    simp only [nm]
    refine sdc [.agg (n.map bval).toArray, .int .i64 (j : Int)] (.int .u8 1) Tryz.call95 (fun w hw => cbit_t n j w true HNL.out (by have := HMK.out; omega) HTB.out) ?_
    simp only [nm]
    refine zfk _ _ _ _ .u8 .u64 1 2 1 (by rfl) rfl rfl rfl (by decide) (by decide) ?_
    simp only [nm]
    refine det_or _ _ _ _ .u8 0 2 2 (by rfl) rfl rfl rfl (by decide) ?_
    simp only [nm]
    refine zbi _ (.int .u8 2) (by rfl) rfl rfl ?_
    simp only [nm]
    refine zao (fun wd hwd => ?_)
    have H1 := xb H1 hwd
    have H2 := xb H2 hwd
    have H3 := xb H3 hwd
    have H4 := xb H4 hwd
    have H5 := xb H5 hwd
    have HVg := xb HVg hwd
    have HVo := xb HVo hwd
    have HE := xt HE hwd
    clear hwd
    go_wp2_with fail
    refine swf 5 1 5 ?_
    refine sdk po 0 (ptF sd) (fun w hw => (zad HVo.out hw).range) q113 (zar _) ?_
    simp only [nm]
    refine zas _ (.int .u8 2) (by rfl) rfl rfl ?_
    simp only [nm]
    refine det_indexm _ 85 _ _ pg 4 128 .u8 2 256 (by rfl) rfl rfl rfl Tryz.underlying133 (by decide) size_cpt rfl ?_
    simp only [nm]
    refine sdk pg 256 (ptF q) (fun w hw => st4_at2 (zad HVg.out hw).range) q113 (zar _) ?_
    simp only [nm]
    refine sdc [.agg (ptF sd).toArray, .agg (ptF q).toArray] (.agg (ptF (sd.sum q)).toArray) Tryz.call94 (fun w hw => csum_f w sd q (HGC.out.ext (HE.out.trans hw))) ?_
    simp only [nm]
    refine zao (zec (k := 5) _ _ _ _ po (ptF (sd.sum q)) (ptF sd) rfl (by kernel_rfl) (by kernel_rfl) (by kernel_rfl) rfl rfl rfl rfl HVo.out (by rw [zat, zat]) (zar _) (zcf _) (fun w8 hb8 hg8 => ?_))
    simp only [Act.put]
    go_wp2_with fail
    go_roundw
    case rel =>
     refine ⟨k + 1, by omega, by go_num, by rw [HST.out]; exact hb8, HVg.out.grown hg8 (by have := HOG.out; simp; omega), H1.out.grown hg8 (by have := HLT.out; simp; omega), H2.out.grown hg8 (by have := HLT.out; simp; omega), H3.out.grown hg8 (by have := HLT.out; simp; omega), H4.out.grown hg8 (by have := HLT.out; simp; omega), H5.out.grown hg8 (by have := HLT.out; simp; omega), zab HE.out hg8 (by have := HLT.out; have := HAW.out; omega)⟩
    case measure => simp [intOf]; omega
   ·go_wp2_with fail
    refine zbb (by kernel_rfl) (by kernel_rfl) ?_
    refine sdk A 0 (m.map bval) (fun w hw => (zad H1.out hw).range) q100 (zac HML.out) ?_
    simp only [nm]
    refine zas _ (.int .i64 (j : Int)) (by rfl) rfl (by show Value.int .i64 (254 - (k : Int)) = _; rw [HMI.out]) ?_
    simp only [nm]
    refine sdc [.agg (m.map bval).toArray, .int .i64 (j : Int)] (.int .u8 1) Tryz.call95 (fun w hw => cbit_t m j w true HML.out (by have := HMK.out; omega) HTA.out) ?_
    simp only [nm]
    refine sdk (A + 1 + 1) 0 (n.map bval) (fun w hw => (zad H3.out hw).range) q100 (zac HNL.out) ?_
    simp only [nm]
    refine zas _ (.int .i64 (j : Int)) (by rfl) rfl (by show Value.int .i64 (254 - (k : Int)) = _; rw [HMI.out]) ?_
    simp only [nm]
    refine sdc [.agg (n.map bval).toArray, .int .i64 (j : Int)] (.int .u8 0) Tryz.call95 (fun w hw => cbit_t n j w false HNL.out (by have := HMK.out; omega) HTB.out) ?_
    simp only [nm]
    refine zfk _ _ _ _ .u8 .u64 0 0 1 (by rfl) rfl rfl rfl (by decide) (by decide) ?_
    simp only [nm]
    refine det_or _ _ _ _ .u8 1 0 1 (by rfl) rfl rfl rfl (by decide) ?_
    simp only [nm]
    refine zbi _ (.int .u8 1) (by rfl) rfl rfl ?_
    simp only [nm]
    refine zao (fun wd hwd => ?_)
    have H1 := xb H1 hwd
    have H2 := xb H2 hwd
    have H3 := xb H3 hwd
    have H4 := xb H4 hwd
    have H5 := xb H5 hwd
    have HVg := xb HVg hwd
    have HVo := xb HVo hwd
    have HE := xt HE hwd
    clear hwd
    go_wp2_with fail
    refine swf 5 1 5 ?_
    refine sdk po 0 (ptF sd) (fun w hw => (zad HVo.out hw).range) q113 (zar _) ?_
    simp only [nm]
    refine zas _ (.int .u8 1) (by rfl) rfl rfl ?_
    simp only [nm]
    refine det_indexm _ 85 _ _ pg 4 128 .u8 1 128 (by rfl) rfl rfl rfl Tryz.underlying133 (by decide) size_cpt rfl ?_
    simp only [nm]
    refine sdk pg 128 (ptF p) (fun w hw => st4_at1 (zad HVg.out hw).range) q113 (zar _) ?_
    simp only [nm]
    refine sdc [.agg (ptF sd).toArray, .agg (ptF p).toArray] (.agg (ptF (sd.sum p)).toArray) Tryz.call94 (fun w hw => csum_f w sd p (HGC.out.ext (HE.out.trans hw))) ?_
    simp only [nm]
    refine zao (zec (k := 5) _ _ _ _ po (ptF (sd.sum p)) (ptF sd) rfl (by kernel_rfl) (by kernel_rfl) (by kernel_rfl) rfl rfl rfl rfl HVo.out (by rw [zat, zat]) (zar _) (zcf _) (fun w8 hb8 hg8 => ?_))
    simp only [Act.put]
    go_wp2_with fail
    go_roundw
    case rel =>
     refine ⟨k + 1, by omega, by go_num, by rw [HST.out]; exact hb8, HVg.out.grown hg8 (by have := HOG.out; simp; omega), H1.out.grown hg8 (by have := HLT.out; simp; omega), H2.out.grown hg8 (by have := HLT.out; simp; omega), H3.out.grown hg8 (by have := HLT.out; simp; omega), H4.out.grown hg8 (by have := HLT.out; simp; omega), H5.out.grown hg8 (by have := HLT.out; simp; omega), zab HE.out hg8 (by have := HLT.out; have := HAW.out; omega)⟩
    case measure => simp [intOf]; omega
   ·go_wp2_with fail
    refine zbb (by kernel_rfl) (by kernel_rfl) ?_
    refine sdk A 0 (m.map bval) (fun w hw => (zad H1.out hw).range) q100 (zac HML.out) ?_
    simp only [nm]
    refine zas _ (.int .i64 (j : Int)) (by rfl) rfl (by show Value.int .i64 (254 - (k : Int)) = _; rw [HMI.out]) ?_
    simp only [nm]
    refine sdc [.agg (m.map bval).toArray, .int .i64 (j : Int)] (.int .u8 1) Tryz.call95 (fun w hw => cbit_t m j w true HML.out (by have := HMK.out; omega) HTA.out) ?_
    simp only [nm]
    refine sdk (A + 1 + 1) 0 (n.map bval) (fun w hw => (zad H3.out hw).range) q100 (zac HNL.out) ?_
    simp only [nm]
    refine zas _ (.int .i64 (j : Int)) (by rfl) rfl (by show Value.int .i64 (254 - (k : Int)) = _; rw [HMI.out]) ?_
    simp only [nm]
    refine sdc [.agg (n.map bval).toArray, .int .i64 (j : Int)] (.int .u8 1) Tryz.call95 (fun w hw => cbit_t n j w true HNL.out (by have := HMK.out; omega) HTB.out) ?_
    simp only [nm]
    refine zfk _ _ _ _ .u8 .u64 1 2 1 (by rfl) rfl rfl rfl (by decide) (by decide) ?_
    simp only [nm]
    refine det_or _ _ _ _ .u8 1 2 3 (by rfl) rfl rfl rfl (by decide) ?_
    simp only [nm]
    refine zbi _ (.int .u8 3) (by rfl) rfl rfl ?_
    simp only [nm]
    refine zao (fun wd hwd => ?_)
    have H1 := xb H1 hwd
    have H2 := xb H2 hwd
    have H3 := xb H3 hwd
    have H4 := xb H4 hwd
    have H5 := xb H5 hwd
    have HVg := xb HVg hwd
    have HVo := xb HVo hwd
    have HE := xt HE hwd
    clear hwd
    go_wp2_with fail
    refine swf 5 1 5 ?_
    refine sdk po 0 (ptF sd) (fun w hw => (zad HVo.out hw).range) q113 (zar _) ?_
    simp only [nm]
    refine zas _ (.int .u8 3) (by rfl) rfl rfl ?_
    simp only [nm]
    refine det_indexm _ 85 _ _ pg 4 128 .u8 3 384 (by rfl) rfl rfl rfl Tryz.underlying133 (by decide) size_cpt rfl ?_
    simp only [nm]
    refine sdk pg 384 (ptF (p.sum q)) (fun w hw => st4_at3 (zad HVg.out hw).range) q113 (zar _) ?_
    simp only [nm]
    refine sdc [.agg (ptF sd).toArray, .agg (ptF (p.sum q)).toArray] (.agg (ptF (sd.sum (p.sum q))).toArray) Tryz.call94 (fun w hw => csum_f w sd (p.sum q) (HGC.out.ext (HE.out.trans hw))) ?_
    simp only [nm]
    refine zao (zec (k := 5) _ _ _ _ po (ptF (sd.sum (p.sum q))) (ptF sd) rfl (by kernel_rfl) (by kernel_rfl) (by kernel_rfl) rfl rfl rfl rfl HVo.out (by rw [zat, zat]) (zar _) (zcf _) (fun w8 hb8 hg8 => ?_))
    simp only [Act.put]
    go_wp2_with fail
    go_roundw
    case rel =>
     refine ⟨k + 1, by omega, by go_num, by rw [HST.out]; exact hb8, HVg.out.grown hg8 (by have := HOG.out; simp; omega), H1.out.grown hg8 (by have := HLT.out; simp; omega), H2.out.grown hg8 (by have := HLT.out; simp; omega), H3.out.grown hg8 (by have := HLT.out; simp; omega), H4.out.grown hg8 (by have := HLT.out; simp; omega), H5.out.grown hg8 (by have := HLT.out; simp; omega), zab HE.out hg8 (by have := HLT.out; have := HAW.out; omega)⟩
    case measure => simp [intOf]; omega
  ·have hk' : k = 255 := by omega
   subst hk'
   have HS := jh hs
   clear hs
   have HL : Hid ((ptF s).length = zq.length) := jh ((zat _).trans zq_length.symm)
   go_wp2_with (first | (refine wpList_load_mid rfl _ _ rfl po 0 rfl _ _ HVo.out.range q113 rfl (zar _) ?_) | (refine ssb (A + 1 + 1 + 1 + 1) (ptF s) H5.out HL.out (zar _) (zcf _) ?_; intro w9 hb9 hg9))
   exact bodyPost_ret (zap (by rfl) _ (A + 1 + 1 + 1 + 1) _ _ _ (by rfl) hb9 q113 rfl (zar _)) rfl ⟨by rw [HS.out], zab HE.out hg9 (by have := HAW.out; omega)⟩
end
theorem run_arr_at {P : Program} {arr e : TypeId} {n : Nat} (hu : P.underlying arr = some (.array n e)) (a : Option Addr) (len cap : Nat) (h : n ≤ len) (w : World) :
  (Instr.arrayAt arr (.slice a len cap)).run P w = .ok (.pointer a) w := by
 unfold Instr.arrayAt
 simp [run_underlying hu, show ¬ len < n by omega]
theorem crv_Sum_one (l : List UInt8) (x : Value) (w : World) (hx : Row1 w x (l.map bval)) (hl : l.length ≤ 1099511627776) (hG : GlobRQ w) :
  Calls Tryz.prog 89 #[.slice (some ⟨w.heap.size, 0, none⟩) 1 1] (w.alloc (.cells #[x] 46)) fun e w' => e = .returned (.agg ((sha512 l).map bval).toArray) ∧ Below w.heap.size w w' := by
 have he := Ext.alloc w (.cells #[x] 46)
 have h := Sum_numQ _ [l] _ (rowB1 (Row1.made w #[x] 46 _ 1 [x] rfl rfl rfl (by unfold maxLen; omega)) (hx.below he)) (by simpa using hl) (hG.ext he)
 refine h.mono ?_
 rintro e w' ⟨h1, h2⟩
 rw [show [l].flatten = l from by simp] at h1
 exact ⟨h1, he.trans h2⟩
theorem results_cell_cell {fn : Func} {p u : Tmp} {ty ty2 : TypeId} (h : fn.results = #[.cell p ty, .cell u ty2]) (tmps : Array Value) (P : Program) (w : World) :
  (results fn tmps).run P w =
   ((asAddr (tmps.getD p undef)).run P w).andThen fun a w₁ => ((loadVar ty a).run P w₁).andThen fun v w₂ => ((asAddr (tmps.getD u undef)).run P w₂).andThen fun b w₃ => ((loadVar ty2 b).run P w₃).andThen fun x w₄ => .ok (.tuple #[v, x]) w₄ := by
 simp only [results, h]
 simp [Sem.run_bind, Result.andThen]
theorem result_two {P : Program} {w : World} {fn : Func} {p u : Tmp} {ty : TypeId} (h : fn.results = #[.cell p ty, .cell u ty]) (tmps : Array Value) (c c2 : Nat) (tb tb2 : TypeId) (cs cs2 : List Value) (d : TypeDesc)
  (hp : tmps.getD p undef = .pointer (some ⟨c, 0, none⟩)) (hq : tmps.getD u undef = .pointer (some ⟨c2, 0, none⟩)) (hb : Blk w c cs tb) (hb2 : Blk w c2 cs2 tb2) (hu : P.underlying ty = some d) (hd : d.isRow = true) (hi : (P.info? ty).map (·.size) = some cs.length) (hi2 : (P.info? ty).map (·.size) = some cs2.length) :
  (results fn tmps).run P w = .ok (.tuple #[.agg cs.toArray, .agg cs2.toArray]) w := by
 rw [results_cell_cell h, hp, hq]
 simp only [asAddr, Sem.run_pure, Result.andThen_ok, run_loadVar_mid w c 0 ty cs d hb.range hu hd hi, run_loadVar_mid w c2 0 ty cs2 d hb2.range hu hd hi2]
theorem csecrets_f (sd : List UInt8) (w : World) (hs : sd.length = 32) (hR : GlobRQ w) : Calls Tryz.prog 50 #[.agg (sd.map bval).toArray] w fun e w' => e = .returned (.tuple #[.agg ((secA sd).map bval).toArray, .agg ((secH sd).map bval).toArray]) ∧ Below w.heap.size w w' := by
 have HSL := jh hs
 have HGR := jh hR
 clear hs hR
 have HB := jh (boxes3 w (sd.map bval) (ints .u8 (List.replicate 32 0)) (ints .u8 (List.replicate 32 0)) 23 23 23)
 go_enter Tryz.func50, Tryz.ntmps50
 go_upto_region 1 with (fail)
 obtain ⟨H1, H2, H3, HE⟩ := HB.out
 change Code.wp _ _ _ _ (World.alloc (World.alloc (World.alloc w (.cells (sd.map bval).toArray 23)) (.cells (ints .u8 (List.replicate 32 0)).toArray 23)) (.cells (ints .u8 (List.replicate 32 0)).toArray 23))
 generalize (World.alloc (World.alloc (World.alloc w (.cells (sd.map bval).toArray 23)) (.cells (ints .u8 (List.replicate 32 0)).toArray 23)) (.cells (ints .u8 (List.replicate 32 0)).toArray 23)) = wa at *
 obtain ⟨A, hA⟩ : ∃ A, A = w.heap.size := ⟨_, rfl⟩
 have HAW : Hid (w.heap.size ≤ A) := jh (by omega)
 rw [← hA] at H1 H2 H3 ⊢
 have H1 := jh H1
 have H2 := jh H2
 have H3 := jh H3
 have HE : Hid (Ext w wa) := jh HE
 clear hA HB
 go_wp2_with fail
 refine (crv_Sum_one sd _ wa (zdi (n := 32) H1.out (by rw [q101]; exact HSL.out) (by unfold maxLen; omega)) (by rw [HSL.out]; omega) (HGR.out.ext HE.out)).mono ?_
 rintro e w6 ⟨rfl, hb⟩
 have H2 := xb H2 hb
 have H3 := xb H3 hb
 have HE := xt HE hb
 clear hb H1
 obtain ⟨dg, hdg⟩ : ∃ dg, dg = sha512 sd := ⟨_, rfl⟩
 rw [← hdg]
 have HDL : Hid (dg.length = 64) := jh (by rw [hdg]; exact zbx sd)
 have HA1 : Hid (clampB (dg.take 32) = secA sd) := jh (by rw [hdg]; rfl)
 have HA2 : Hid (dg.drop 32 = secH sd) := jh (by rw [hdg]; rfl)
 clear hdg
 have HZ := jh (Blk.made w6 (ints .u8 (List.replicate 64 0)) 26)
 have HEA := jh (Ext.alloc w6 (.cells (ints .u8 (List.replicate 64 0)).toArray 26))
 have HLD : Hid ((dg.map bval).length = (ints .u8 (List.replicate 64 0)).length) := jh (by rw [q101, HDL.out, zaa]; rfl)
 have HLT := jh H3.out.lt
 go_upto_region 2 with (refine ssb w6.heap.size (dg.map bval) HZ.out HLD.out (zcg HDL.out) (zaf _) ?_; intro w7 hb hg)
 have HX := jh (zab HEA.out hg (q102 _))
 obtain ⟨pd, hT⟩ : ∃ T, T = w6.heap.size := ⟨_, rfl⟩
 rw [← hT] at hb HLT ⊢
 clear hT
 have H2 := xb H2 HX.out
 have H3 := xb H3 HX.out
 have HE := xt HE HX.out
 obtain ⟨dl, hdl⟩ : ∃ dl, dl = dg.take 32 := ⟨_, rfl⟩
 obtain ⟨dr, hdr⟩ : ∃ dr, dr = dg.drop 32 := ⟨_, rfl⟩
 have hsp : dg = dl ++ dr := by rw [hdl, hdr, q117]
 have HLL : Hid (dl.length = 32) := jh (by rw [hdl, q112, HDL.out]; rfl)
 have HLR : Hid (dr.length = 32) := jh (by rw [hdr, q139, HDL.out])
 rw [← hdl] at HA1
 rw [← hdr] at HA2
 rw [hsp, q134] at hb
 have HV5 := jh hb
 clear hb hg HX HZ HEA HLD hdl hdr hsp HDL
 generalize w7 = wd at *
 have HCL := jh (zdb HLL.out)
 obtain ⟨ca, hca⟩ : ∃ k, k = clampB dl := ⟨_, rfl⟩
 have HCC := jh (fun w => cclamped_any dl w HLL.out)
 rw [← hca] at HCC HCL HA1
 clear hca
 have hat1 := run_arr_at (P := Tryz.prog) q100 (some ⟨pd, 0, none⟩) 32 64 (q102 _)
 have hat2 := run_arr_at (P := Tryz.prog) q100 (some ⟨pd, 32, none⟩) 32 32 (q102 _)
 have B0 := zad HV5.out (Ext.drew wd)
 refine wp_region_held_drew (S := fun w' => Blk w' pd (dl.map bval ++ dr.map bval) 26) (by kernel_rfl) B0 (fun hW => ?_)
 refine tke 0 (.slice (some ⟨pd, 0, none⟩) 32 64) rfl (zbj _ (by rfl) (fun w _ => by go_simp)) hW ?_
 simp only [nm]
 refine tke 1 (.pointer (some ⟨pd, 0, none⟩)) rfl (zbj _ (by rfl) (fun w _ => by go_simp)) hW ?_
 simp only [nm]
 refine tke 2 (.agg (dl.map bval).toArray) rfl (sld pd 0 (fun w h => rng_lo h.range) q100 (zac HLL.out)) hW ?_
 simp only [nm]
 refine tke 4 (.slice (some ⟨pd, 32, none⟩) 32 32) rfl (zbj _ (by rfl) (fun w _ => by go_simp)) hW ?_
 simp only [nm]
 refine tke 5 (.pointer (some ⟨pd, 32, none⟩)) rfl (zbj _ (by rfl) (fun w _ => by go_simp)) hW ?_
 simp only [nm]
 refine tke 6 (.agg (dr.map bval).toArray) rfl (sld pd 32 (fun w h => rng_hi (m := 32) h.range (by rw [q101]; exact HLL.out) rfl) q100 (zac HLR.out)) hW ?_
 simp only [nm]
 refine rdy 3 rfl fun K hK => ?_
 go_simp
 refine (HCC.out _).mono ?_
 rintro e m1 ⟨rfl, b1⟩
 have c1 := (Ext.drew wd).trans b1
 refine hK.out _ _ (zad B0 b1) (fun hW => ?_)
 clear hK K
 try simp only [nm]
 refine rdy 7 rfl fun K hK => ?_
 refine zbn (by rfl) ?_
 refine zak _ _ _ rfl (A + 1) (ca.map bval) rfl rfl _ _ (zad H2.out c1) (by rw [q101, HCL.out]; rfl) (zac HCL.out) (zaf _) ?_
 intro m2 hb2 hg2
 refine hK.out _ _ ((zad B0 b1).grown hg2 (by have := HLT.out; simp; omega)) (fun hW => ?_)
 clear hK K
 try simp only [nm]
 refine rdy 8 rfl fun K hK => ?_
 refine zbn (by rfl) ?_
 refine zak _ _ _ rfl (A + 1 + 1) (dr.map bval) rfl rfl _ _ ((zad H3.out c1).grown hg2 (by simp)) (by rw [q101, HLR.out]; rfl) (zac HLR.out) (zaf _) ?_
 intro m3 hb3 hg3
 refine hK.out _ _ (((zad B0 b1).grown hg2 (by have := HLT.out; simp; omega)).grown hg3 (by have := HLT.out; simp; omega)) (fun hW => ?_)
 clear hK K
 try simp only [nm]
 refine dne ?_
 have r2 := hb2.grown hg3 (by simp)
 have HE3 := zab (zab (HE.out.trans c1) hg2 (by have := HAW.out; omega)) hg3 (by have := HAW.out; omega)
 go_wp2_with fail
 refine bodyPost_ret (result_two rfl _ (A + 1) (A + 1 + 1) _ _ _ _ _ rfl rfl r2 hb3 q100 rfl (zac HCL.out) (zac HLR.out)) rfl ?_
 exact ⟨by rw [HA1.out, HA2.out], HE3⟩
theorem secA_length (s : List UInt8) : (secA s).length = 32 := zdb (by rw [q112, zbx]; rfl)
theorem secH_length (s : List UInt8) : (secH s).length = 32 := by unfold secH; rw [q139, zbx]
theorem clampB_lt {l : List UInt8} (h : l.length = 32) : leN (clampB l) < 2 ^ 255 := by
 refine leN_top (zdb h) ?_
 unfold clampB
 rw [getD_set_self _ 31 _ (by simp [h])]
 have hh : ∀ m : Fin 256, ((UInt8.ofNat m.val &&& 127) ||| 64).toNat < 128 := by decide +kernel
 generalize (l.set 0 (l.getD 0 0 &&& 248)).getD 31 0 = b
 have := hh ⟨b.toNat, b.toNat_lt⟩
 simpa using this
theorem secA_lt (s : List UInt8) : leN (secA s) < 2 ^ 255 := clampB_lt (by rw [q112, zbx]; rfl)
theorem wideB_lt (m : List UInt8) : leN (wideB m) < 2 ^ 255 := by
 unfold wideB
 rw [leN_nq]
 exact Nat.lt_trans (q140 _ (by decide +kernel)) (by decide +kernel)
theorem enc_times {a : List UInt8} (h : leN a < 2 ^ 255) : encS (crun bP.es (leN a) 255) = encB (pmul (leN a) bP) := encS_is (crun_full bP.es_is h)
theorem scl_Mul_num (l m : List UInt8) (w : World) (hl : l.length = 32) (hm : m.length = 32) (hG : GlobT w) :
  Calls Tryz.prog 56 #[.agg (l.map bval).toArray, .agg (m.map bval).toArray] w fun e w' => e = .returned (.agg ((nq ((leN l : Nat) * (leN m : Nat))).map bval).toArray) ∧ Below w.heap.size w w' := by
 have HSM := jh (leN_prod l m hl hm)
 have HXT := jh ((limF_can l (by omega)).ten (leN_ten l hl) (by omega))
 have HYT := jh ((limF_can m (by omega)).ten (leN_ten m hm) (by omega))
 have HL := jh hl
 have HM := jh hm
 have HG := jh hG
 have HIl : Hid ((Tryz.prog.info? 23).map (·.size) = some (l.map bval).length) := jh (zac hl)
 have HIm : Hid ((Tryz.prog.info? 23).map (·.size) = some (m.map bval).length) := jh (zac hm)
 have HCX := jh (limF_can l (by omega))
 have HCY := jh (limF_can m (by omega))
 have HB := jh (boxes3 w (l.map bval) (m.map bval) (ints .u8 (List.replicate 32 0)) 23 23 23)
 clear hl hm hG
 go_enter Tryz.func56, Tryz.ntmps56
 go_wp2_with fail
 change Code.wp _ _ _ _ (((w.alloc (.cells (l.map bval).toArray 23)).alloc (.cells (m.map bval).toArray 23)).alloc (.cells (ints .u8 (List.replicate 32 0)).toArray 23))
 generalize ((w.alloc (.cells (l.map bval).toArray 23)).alloc (.cells (m.map bval).toArray 23)).alloc (.cells (ints .u8 (List.replicate 32 0)).toArray 23) = w0 at *
 obtain ⟨h1, h2, h3, hE⟩ := HB.out
 obtain ⟨A, hA⟩ : ∃ A, A = w.heap.size := ⟨_, rfl⟩
 rw [← hA] at h1 h2 h3 ⊢
 have hA2 : w.heap.size ≤ A := by omega
 have hA3 : A + 1 + 1 < w0.heap.size := h3.lt
 have H1 := jh h1
 have H2 := jh h2
 have H3 := jh h3
 have HE : Hid (Ext w w0) := jh hE
 clear h1 h2 h3 hE HB hA
 refine swf 4 4 6 ?_
 refine zaw (.slice (some ⟨A, 0, none⟩) 32 32) (by rfl) (fun w hw => by go_simp) ?_
 simp only [nm]
 refine sdc [.slice (some ⟨A, 0, none⟩) 32 32] (.agg (ints .i64 (limF l)).toArray) Tryz.call98 (fun w hw => lim_blk l (zad H1.out hw) HL.out) ?_
 simp only [nm]
 refine zaw (.slice (some ⟨(A + 1), 0, none⟩) 32 32) (by rfl) (fun w hw => by go_simp) ?_
 simp only [nm]
 refine sdc [.slice (some ⟨(A + 1), 0, none⟩) 32 32] (.agg (ints .i64 (limF m)).toArray) Tryz.call98 (fun w hw => lim_blk m (zad H2.out hw) HM.out) ?_
 simp only [nm]
 refine zao (end_var2 (k := 4) 127 5 6 (.tmp 11) (.tmp 13) (ints .i64 (List.replicate 19 0)) (ints .i64 (limF l)) (ints .i64 (limF m)) rfl rfl rfl rfl (by kernel_rfl) (by kernel_rfl) (by kernel_rfl) (by kernel_rfl) (by kernel_rfl) (by kernel_rfl) (by kernel_rfl) (by kernel_rfl) (by kernel_rfl) (by kernel_rfl) rfl rfl rfl rfl rfl rfl rfl rfl (by decide) (fun w => by rw [Tryz.zeroValue127]; rfl) rfl rfl rfl rfl (by simp) (by simp) (fun p q => rfl) (fun p q => rfl) (by rw [zaa, zaa, zdt]; rfl) (by rw [zaa, zaa, zdt]; rfl) (by rw [zaa, zdt]; exact Tryz.arr127) (by rw [zaa, zdt]; exact Tryz.arr127) (zaj _ _) (zaj _ _) ?_)
 intro p q w1 hpq hp hq hb1 hb2 he1
 have HPQ := jh hpq
 have H3 := xb H3 he1
 have HE := xt HE he1
 have HX := jh hb1
 have HY := jh hb2
 have hpA : A + 1 + 1 < p := by omega
 have hqA : A + 1 + 1 < q := by omega
 have hpw : p < w1.heap.size := hb1.lt
 have hqw : q < w1.heap.size := hb2.lt
 clear hpq hb1 hb2 he1 H1 H2
 clear hp hq
 go_wp2_with fail
 change Code.wp _ _ _ _ (w1.alloc (.cells (ints .i64 (List.replicate 19 0)).toArray 127))
 have HZ := jh (Blk.made w1 (ints .i64 (List.replicate 19 0)) 127)
 have H3 := jh (H3.out.alloc (.cells (ints .i64 (List.replicate 19 0)).toArray 127))
 have HX := jh (HX.out.alloc (.cells (ints .i64 (List.replicate 19 0)).toArray 127))
 have HY := jh (HY.out.alloc (.cells (ints .i64 (List.replicate 19 0)).toArray 127))
 have HE := jh (HE.out.trans (Ext.alloc w1 (.cells (ints .i64 (List.replicate 19 0)).toArray 127)))
 generalize w1.alloc (.cells (ints .i64 (List.replicate 19 0)).toArray 127) = w2 at *
 generalize w1.heap.size = D at *
 have HXL := jh HCX.out.len
 have HYL := jh HCY.out.len
 have HXR : Hid (∀ j, 0 ≤ (limF l).getD j 0 ∧ (limF l).getD j 0 ≤ 268435456) := jh (fun j => by have := HCX.out.range j; omega)
 have HYR : Hid (∀ j, 0 ≤ (limF m).getD j 0 ∧ (limF m).getD j 0 ≤ 268435456) := jh (fun j => by have := HCY.out.range j; omega)
 clear HCX HCY
 generalize limF l = x at *
 generalize limF m = y at *
 go_loopw [14] (fun i wr => ∃ (k : Nat), k ≤ 10 ∧ i = .int .i64 (k : Int) ∧ Blk wr D (ints .i64 (mAll x y k)) 127 ∧ Blk wr p (ints .i64 x) 127 ∧ Blk wr q (ints .i64 y) 127 ∧ Blk wr (A + 1 + 1) (ints .u8 (List.replicate 32 0)) 23 ∧ Ext w wr) (fun i _ => 10 - (intOf i).toNat)
 case atStart => exact ⟨0, by omega, rfl, HZ.out, HX.out, HY.out, H3.out, HE.out⟩
 case round =>
  clear HX HY HZ H3 HE
  obtain ⟨i, hi, rfl, hbz, hb1, hb2, hb3, hbel⟩ := hrel
  have i0' : (0 : Int) ≤ (i : Int) := Int.natCast_nonneg _
  by_cases hlt : i < 10
  ·have i1 : (i : Int) < 10 := by omega
   have HZ := jh hbz
   have HX := jh hb1
   have HY := jh hb2
   have H3 := jh hb3
   have HE := jh hbel
   clear hbz hb1 hb2 hb3 hbel
   have HPR := jh (mAll_range HXR.out HYR.out i (by omega))
   have HPL := jh (mAll_length x y i)
   have HNX : Hid (mAll x y (i + 1) = mRow (mAll x y i) x y i 10) := jh rfl
   generalize mAll x y i = z at *
   go_wp2_with fail
   obtain ⟨wo, rfl⟩ : ∃ wo : World, wo = wr := ⟨_, rfl⟩
   go_loopw [17] (fun j wr => ∃ (k : Nat), k ≤ 10 ∧ j = .int .i64 (k : Int) ∧ Blk wr D (ints .i64 (mRow z x y i k)) 127 ∧ Blk wr p (ints .i64 x) 127 ∧ Blk wr q (ints .i64 y) 127 ∧ Blk wr (A + 1 + 1) (ints .u8 (List.replicate 32 0)) 23 ∧ Ext w wr) (fun j _ => 10 - (intOf j).toNat)
   case atStart => exact ⟨0, by omega, rfl, HZ.out, HX.out, HY.out, H3.out, HE.out⟩
   case round =>
    clear HX HY HZ H3 HE
    obtain ⟨j, hj, rfl, hbz, hb1, hb2, hb3, hbel⟩ := hrel
    have j0' : (0 : Int) ≤ (j : Int) := Int.natCast_nonneg _
    by_cases hlj : j < 10
    ·have j1 : (j : Int) < 10 := by omega
     have hxl := HXL.out
     have hyl := HYL.out
     have hzl := zdk z x y i j
     rw [HPL.out] at hzl
     have e1 := hb1.cell i
     rw [zan (by omega)] at e1
     have e2 := hb2.cell j
     rw [zan (by omega)] at e2
     have e3 := hbz.cell (i + j)
     rw [zan (by omega)] at e3
     have f3 := hbz.free (i + j)
     have q1 := HXR.out i
     have q2 := HYR.out j
     have q3 := mRow_range hlt HPL.out HPR.out (HXR.out i) HYR.out j (by omega) (i + j)
     have hst : mRow z x y i (j + 1) = (mRow z x y i j).set (i + j) ((mRow z x y i j).getD (i + j) 0 + x.getD i 0 * y.getD j 0) := rfl
     have HST := jh hst
     have q4 := mul_range q1.1 q1.2 q2.1 q2.2
     generalize (mRow z x y i j).getD (i + j) 0 = a at *
     generalize x.getD i 0 = u at *
     generalize y.getD j 0 = t at *
     obtain ⟨ij, hij⟩ : ∃ ij : Nat, ij = i + j := ⟨_, rfl⟩
     rw [← hij] at e3 f3
     have hij2 : (i : Int) + (j : Int) = (ij : Int) := by omega
     have ij1 : (ij : Int) < 19 := by omega
     have HIJ := jh hij
     have HZ := jh hbz
     have HX := jh hb1
     have HY := jh hb2
     have H3 := jh hb3
     have HE := jh hbel
     clear hst hbz hb1 hb2 hb3 hbel hxl hyl hzl hij
     go_wp2_with fail
     go_region
     go_wp2_with fail
     go_roundw
     case rel =>
      refine ⟨j + 1, by omega, by go_num, ?_, (HX.out.far (by simp; omega) _).drewN 1, (HY.out.far (by simp; omega) _).drewN 1, (H3.out.far (by simp; omega) _).drewN 1, (Below.setCell HE.out (by simp; omega) _).drew⟩
      rw [HST.out, ← zbq, ← HIJ.out]
      exact (HZ.out.set ij _).drewN 1
     case measure => simp [intOf]; omega
    ·have hj' : j = 10 := by omega
     subst hj'
     rw [← HNX.out] at hbz
     have HZ := jh hbz
     have HX := jh hb1
     have HY := jh hb2
     have H3 := jh hb3
     have HE := jh hbel
     clear hbz hb1 hb2 hb3 hbel
     go_wp2_with fail
     go_roundw
     case rel => exact ⟨i + 1, by omega, by go_num, HZ.out, HX.out, HY.out, H3.out, HE.out⟩
     case measure => simp [intOf]; omega
  ·have hi' : i = 10 := by omega
   subst hi'
   have hzl := mAll_length x y 10
   have hval := mAll_val x y HXL.out HYL.out 10 (by omega)
   rw [HXT.out, HYT.out] at hval
   have HNM := jh (fun w hw => scl_numOf_any (mAll x y 10) ((leN l : Nat) * (leN m : Nat)) 720575940379279360 w hw hzl (by omega) (by omega) (fun j hj => by
    have := mAll_range HXR.out HYR.out 10 (by omega) j
    omega) hval (q151 (by omega) (by omega)) HSM.out)
   have hi1 : Hid ((Tryz.prog.info? 127).map (·.size) = some (ints .i64 (mAll x y 10)).length) := jh (by rw [zaa, hzl]; exact Tryz.arr127)
   have HZ := jh hbz
   have H3 := jh hb3
   have HE := jh hbel
   clear hbz hb1 hb2 hb3 hbel hzl hval
   go_wp2_with (refine slb D HZ.out q155 hi1.out ?_)
   refine (HNM.out _ (HG.out.ext HE.out)).mono ?_
   rintro e w5 ⟨rfl, hb5⟩
   have H3 := xb H3 hb5
   have HE := xt HE hb5
   have hi2 : Hid ((Tryz.prog.info? 23).map (·.size) = some ((nq ((leN l : Nat) * (leN m : Nat))).map bval).length) := jh (zac (zbu _))
   have hl2 : Hid (((nq ((leN l : Nat) * (leN m : Nat))).map bval).length = (ints .u8 (List.replicate 32 0)).length) := jh (by rw [q101, zbu]; rfl)
   clear hb5 HNM
   go_wp2_with (refine ssb (A + 1 + 1) _ H3.out hl2.out hi2.out (zaf _) ?_; intro w7 hb7 hg7)
   exact bodyPost_ret (v := .agg ((nq ((leN l : Nat) * (leN m : Nat))).map bval).toArray) (zap (by rfl) _ (A + 1 + 1) _ _ _ (by rfl) hb7 q100 rfl hi2.out) rfl ⟨rfl, zab HE.out hg7 (by omega)⟩
theorem grown_own (w : World) (base n cap : Nat) (e : TypeId) (cur : Array Value) (hb : base ≤ w.heap.size) (hc : cap ≤ maxLen) (hs : cur.size = cap) : (w.alloc (.cells cur e)).ownsRow base e 1 (.slice (some ⟨w.heap.size, 0, none⟩) 0 cap) 0 [] :=
 ⟨rfl, Or.inr ⟨w.heap.size, cap, cur, rfl, hb, heap_alloc_new w _, q149 _, hc, by omega, rfl⟩⟩
theorem stdGrow_nil (n : Nat) (w : World) (hn : n ≤ 1099511627776) :
  Calls Tryz.prog 74 #[.slice none 0 0, .int .i64 (n : Int)] w fun e w' => ∃ x, e = .returned x ∧ w'.ownsRow w.heap.size 5 1 x 0 [] ∧ Below w.heap.size w w' := by
 obtain ⟨i0, hi, hz0, hz1, hz2⟩ := info_parts Tryz.info5
 have h0 : (0 : Int) ≤ (n : Int) := Int.natCast_nonneg _
 have HNB := jh hn
 go_enter Tryz.func74, Tryz.ntmps74
 rcases q150 n with rfl | hp
 ·clear hi hz0 hz1 hz2
  go_wp2_with fail
  go_ret
  exact ⟨_, rfl, World.ownsRow_nil _ _ _ _, Below.refl _ _⟩
 ·have hp' : (0 : Int) < (n : Int) := by omega
  have HR := jh (Lib.run_append_nil_zeros (P := Tryz.prog) w 46 3 0 5 i0 (.int .u8 0) .i64 .i64 q107 rfl hi hz0 n hp (by rw [hz1]; decide) (by omega) (by rw [hz2]; omega))
  have HG : Hid (grownCap w n 0 5 ≤ maxLen) := jh (grownCap_le_maxLen w n 0 _ (by unfold maxLen; omega))
  have HG2 : Hid (n ≤ grownCap w n 0 5) := jh (grownCap_ge w n 0 _)
  have HSZ : Hid ((Builtin.zeroCells (Value.cells (.int .u8 0)) n ++ Builtin.zeroCells (Value.cells (.int .u8 0)) (grownCap w n 0 5 - n)).size = grownCap w n 0 5) := jh (by
   rw [Array.size_append, size_zeroCells, size_zeroCells]
   have := HG2.out
   simp [Value.cells]
   omega)
  clear hi hz0 hz1 hz2
  generalize Builtin.zeroCells (Value.cells (.int .u8 0)) n ++ Builtin.zeroCells (Value.cells (.int .u8 0)) (grownCap w n 0 5 - n) = cur at *
  generalize grownCap w n 0 5 = cap at *
  have hc0 : (0 : Int) ≤ (cap : Int) := Int.natCast_nonneg _
  go_wp2_with (at_builtin; refine Lib.wpList_append_run _ rfl _ _ _ _ rfl _ _ rfl rfl _ _ HR.out ?_)
  go_ret
  exact ⟨_, rfl, grown_own w.drew _ n cap _ cur (q102 _) HG.out HSZ.out, below_drewN (Ext.alloc w _) 1⟩
theorem cat_succ (ls : List (List UInt8)) (k : Nat) (l : List UInt8) (h : ls[k]? = some l) : (ls.take (k + 1)).flatten = (ls.take k).flatten ++ l := by
 have hk : k < ls.length := by
  rcases q116 k ls.length with h' | h'
  ·exact h'
  ·rw [List.getElem?_eq_none h'] at h; cases h
 rw [q159 hk, q169]
 rw [List.getElem?_eq_getElem hk] at h
 cases h
 simp
theorem cat_part (ls : List (List UInt8)) (k : Nat) : (ls.take k).flatten.length ≤ ls.flatten.length := by
 have h : ls.flatten = (ls.take k).flatten ++ (ls.drop k).flatten := by rw [← q169, q117]
 rw [h, q108]
 omega
theorem cat_all (ls : List (List UInt8)) : (ls.take ls.length).flatten = ls.flatten := by rw [q173]
theorem stdConcat_any (v : Value) (ls : List (List UInt8)) (w : World) (hv : RowB w v ls) (hb : ls.flatten.length ≤ 1099511627776) :
  Calls Tryz.prog 40 #[v] w fun e w' => ∃ x, e = .returned x ∧ w'.ownsRow w.heap.size 5 1 x ls.flatten.length (ls.flatten.map bval) ∧ Below w.heap.size w w' := by
 obtain ⟨i0, hi, hz0, hz1, hz2⟩ := info_parts Tryz.info5
 obtain ⟨vals, hr, hlen, hx⟩ := hv
 obtain ⟨a, cap, rfl, r1, r2, r3, r4⟩ := id hr
 unfold maxLen at r2
 rw [hlen] at r1 ⊢
 have HI0 := jh hi
 have HZ0 := jh hz0
 have HZ1 := jh hz1
 have HZ2 := jh hz2
 have HX := jh hx
 have HC := jh r4
 have HLN := jh hlen
 have HB := jh hb
 clear hr hx r3 r4 hb hlen hi hz0 hz1 hz2
 go_enter Tryz.func40, Tryz.ntmps40
 go_wp2_with fail
 go_loop [3, 11] (fun sv iv => ∃ (k : Nat), k ≤ ls.length ∧ iv = .int .i64 (k : Int) ∧ sv = .int .i64 ((ls.take k).flatten.length : Int)) (fun _ iv => ls.length - (intOf iv).toNat)
 case atStart => exact ⟨0, by omega, rfl, rfl⟩
 case round =>
  obtain ⟨k, hk, rfl, rfl⟩ := hrel
  have k0 : (0 : Int) ≤ (k : Int) := Int.natCast_nonneg _
  by_cases hlk : k < ls.length
  ·have k1 : (k : Int) < (ls.length : Int) := by omega
   obtain ⟨b', off, rfl, hbs, hcell⟩ := HC.out (by intro e; have h := congrArg List.length e; rw [HLN.out] at h; simp only [q160] at h; omega)
   obtain ⟨xv, hxv⟩ : ∃ x, vals[k]? = some x := ⟨_, List.getElem?_eq_getElem (by rw [HLN.out]; exact hlk)⟩
   obtain ⟨lk, hlk2⟩ : ∃ x, ls[k]? = some x := ⟨_, List.getElem?_eq_getElem hlk⟩
   obtain ⟨ax, cx, hxx, _⟩ := HX.out k xv lk hxv hlk2
   rw [q101] at hxx
   have hft := cat_succ ls k lk hlk2
   have hfl := cat_part ls (k + 1)
   rw [hft, q108] at hfl
   have HFT : Hid ((ls.take (k + 1)).flatten.length = (ls.take k).flatten.length + lk.length) := jh (by rw [hft, q108])
   have c0 : w.cell? ⟨b', off + k, none⟩ = some xv := by
    have h := hcell k (by rw [HLN.out]; exact hlk)
    rw [hxv] at h
    exact h
   subst hxx
   have hB := HB.out
   generalize (ls.take k).flatten.length = p at *
   have hpl : (p : Int) + (lk.length : Int) ≤ 1099511627776 := by omega
   have hp0 : (0 : Int) ≤ (p : Int) := Int.natCast_nonneg _
   have hl0 : (0 : Int) ≤ (lk.length : Int) := Int.natCast_nonneg _
   have hlk0 : (0 : Int) ≤ (p : Int) + (lk.length : Int) := by omega
   clear hcell hxv hlk2 hft hfl
   go_wp2_with fail
   go_round
   case rel =>
    refine ⟨k + 1, by omega, by go_num, ?_⟩
    rw [HFT.out]
    rfl
   case measure => simp [intOf]; omega
  ·have hk2 : (ls.length : Int) ≤ (k : Int) := by omega
   obtain rfl : k = ls.length := by omega
   rw [cat_all]
   obtain ⟨N, hN⟩ : ∃ N, N = ls.flatten.length := ⟨_, rfl⟩
   have HNB : Hid (N ≤ 1099511627776) := jh (by rw [hN]; exact HB.out)
   rw [← hN]
   have n0 : (0 : Int) ≤ (N : Int) := Int.natCast_nonneg _
   clear hN
   go_wp2_with fail
   refine (stdGrow_nil N w HNB.out).mono ?_
   rintro e w1 ⟨x1, rfl, ho1, hb1⟩
   have HNIL := jh ho1
   have HE1 : Hid (Ext w w1) := jh hb1
   clear ho1 hb1
   go_wp2_with fail
   go_loopw [6, 27] (fun x iv wr => ∃ (k : Nat), k ≤ ls.length ∧ iv = .int .i64 (k : Int) ∧ wr.ownsRow w.heap.size 5 1 x (ls.take k).flatten.length ((ls.take k).flatten.map bval) ∧ Ext w wr) (fun _ iv _ => ls.length - (intOf iv).toNat)
   case atStart => exact ⟨0, by omega, rfl, HNIL.out, HE1.out⟩
   case round =>
    clear HNIL HE1
    obtain ⟨k, hk, rfl, ho, hE⟩ := hrel
    have k0 : (0 : Int) ≤ (k : Int) := Int.natCast_nonneg _
    have HO := jh ho
    have HE := jh hE
    have HS := jh hE.size
    clear ho hE
    by_cases hlk : k < ls.length
    ·have k1 : (k : Int) < (ls.length : Int) := by omega
     obtain ⟨b', off, rfl, hbs, hcell⟩ := HC.out (by intro e; have h := congrArg List.length e; rw [HLN.out] at h; simp only [q160] at h; omega)
     obtain ⟨xv, hxv⟩ : ∃ x, vals[k]? = some x := ⟨_, List.getElem?_eq_getElem (by rw [HLN.out]; exact hlk)⟩
     obtain ⟨lk, hlk2⟩ : ∃ x, ls[k]? = some x := ⟨_, List.getElem?_eq_getElem hlk⟩
     have HXR := jh ((HX.out k xv lk hxv hlk2).below HE.out)
     have hft := cat_succ ls k lk hlk2
     have hfl := cat_part ls (k + 1)
     rw [hft, q108] at hfl
     have HFT := jh hft
     have c0 : wr.cell? ⟨b', off + k, none⟩ = some xv := by
      have h := hcell k (by rw [HLN.out]; exact hlk)
      rw [hxv] at h
      rw [← h]
      exact HE.out.cell (p := ⟨b', off + k, none⟩) hbs
     have HFL : Hid ((ls.take k).flatten.length + (lk.map bval).length ≤ 1099511627776) := jh (by rw [q101]; have := HB.out; omega)
     clear hcell hxv hlk2 hft hfl
     go_wp2_with (at_builtin; refine zam rfl _ _ 46 rfl w.heap.size 5 i0 (.int .u8 0) 1 q107 HI0.out HZ0.out HZ1.out HZ2.out rfl _ _ _ rfl HO.out rfl HXR.out (zaf _) (by have := HFL.out; unfold maxLen; omega) (by have := HFL.out; omega) HS.out ?_; intro v3 w3 hown3 hgrow3)
     go_roundw
     case rel =>
      refine ⟨k + 1, by omega, by go_num, ?_, ext_own HE.out HO.out (q102 _) hgrow3⟩
      rw [HFT.out, q134, q108]
      rw [q101] at hown3
      exact hown3
     case measure => simp [intOf]; omega
    ·have hk2 : (ls.length : Int) ≤ (k : Int) := by omega
     obtain rfl : k = ls.length := by omega
     rw [cat_all] at HO
     go_wp2_with fail
     go_ret
     exact ⟨_, rfl, HO.out, HE.out⟩
theorem dig_one (v : Value) (ls : List (List UInt8)) (l : List UInt8) (x : Value) (m : List UInt8) (w : World) (hv : RowB w v ls) (hx : Row1 w x (l.map bval)) (hm : l ++ ls.flatten = m) (hl : m.length ≤ 1099511627776) (hc : ls.length ≤ 1000000) (hR : GlobRQ w) (hT : GlobT w) :
  Calls Tryz.prog 54 #[v, .slice (some ⟨w.heap.size, 0, none⟩) 1 1] (w.alloc (.cells #[x] 46)) fun e w' => e = .returned (.agg ((wideB m).map bval).toArray) ∧ Below w.heap.size w w' := by
 have he := Ext.alloc w (.cells #[x] 46)
 have h := cdigested_f v _ ls [l] m _ (hv.below he) (rowB1 (Row1.made w #[x] 46 _ 1 [x] rfl rfl rfl (by unfold maxLen; omega)) (hx.below he)) (by simpa using hm) hl (by simp; omega) (hR.ext he) (hT.ext he)
 refine h.mono ?_
 rintro e w' ⟨h1, h2⟩
 exact ⟨h1, he.trans h2⟩
theorem dig_two (v a : Value) (ls : List (List UInt8)) (l k m : List UInt8) (w : World) (hv : RowB w v ls) (ha : RowB w a [l, k]) (hm : l ++ (k ++ ls.flatten) = m) (hl : m.length ≤ 1099511627776) (hc : ls.length ≤ 1000000) (hR : GlobRQ w) (hT : GlobT w) :
  Calls Tryz.prog 54 #[v, a] w fun e w' => e = .returned (.agg ((wideB m).map bval).toArray) ∧ Below w.heap.size w w' :=
 cdigested_f v a ls [l, k] m w hv ha (by simpa using hm) hl (by simp; omega) hR hT
theorem cat_two (x y : Value) (l m : List UInt8) (w : World) (hx : Row1 w x (l.map bval)) (hy : Row1 w y (m.map bval)) (hl : (l ++ m).length ≤ 1099511627776) :
  Calls Tryz.prog 40 #[.slice (some ⟨w.heap.size, 0, none⟩) 2 2] (w.alloc (.cells #[x, y] 46)) fun e w' => ∃ z, e = .returned z ∧ Row1 w' z ((l ++ m).map bval) ∧ Below w.heap.size w w' := by
 have he := Ext.alloc w (.cells #[x, y] 46)
 have h := stdConcat_any _ [l, m] _ (rowB2 (Row1.made w #[x, y] 46 _ 2 [x, y] rfl rfl rfl (by unfold maxLen; omega)) (hx.below he) (hy.below he)) (by simpa using hl)
 refine h.mono fun e w' hh => ?_
 obtain ⟨z, h1, h2, h3⟩ := hh
 rw [show [l, m].flatten = l ++ m from by simp] at h2
 exact ⟨z, h1, Row1.of_own h2, he.trans h3⟩
theorem wp_pure {P : Program} {o : Oper} {a : Act} {w : World} {K : Act → World → Prop} {Q : Exit → Act → World → Prop} (d : Option Nat) (v : Value) (hd : o.dst = d) (h : (execOp a.eval o).run P w = .ok (.value v) w) (next : K (a.put d v) w) : o.wp P a w K Q := by
 subst hd
 unfold Oper.wp
 rw [h]
 exact next
theorem edS_of {s m : List UInt8} : nq (((leN (edNum s m) : Nat) : Int) + ((leN (nq (((leN (wideB (edR s m ++ (edPub s ++ m))) : Nat) : Int) * ((leN (secA s) : Nat) : Int))) : Nat) : Int)) = edS s m := by
 unfold edS
 rfl
theorem CSign_num (sd : List UInt8) (v : Value) (ls : List (List UInt8)) (w : World) (hs : sd.length = 32) (hv : RowB w v ls) (hl : ls.flatten.length ≤ 1000000000000) (hc : ls.length ≤ 1000000) (hR : GlobRQ w) (hT : GlobT w) (hG : GlobC w) : Calls Tryz.prog 28 #[.agg (sd.map bval).toArray, v] w fun e w' => e = .returned (.agg ((edSign sd ls.flatten).map bval).toArray) ∧ Below w.heap.size w w' := by
 have HSL := jh hs
 clear hs
 obtain ⟨m, hmm⟩ : ∃ m, m = ls.flatten := ⟨_, rfl⟩
 have HMM := jh hmm.symm
 rw [← hmm] at hl
 have HML := jh hl
 have HCT := jh hc
 have HVB := jh hv
 have HGT := jh hT
 have HGR := jh hR
 obtain ⟨bA, bC, hbf, _⟩ := rowB_form hv
 obtain ⟨bL, hbL⟩ : ∃ n, n = ls.length := ⟨_, rfl⟩
 rw [← hbL] at hbf
 subst hbf
 obtain ⟨iq, hq0, hq1, hq2⟩ := info_two (P := Tryz.prog) (t := 46) (z := .slice none 0 0) (n := 1) (by kernel_rfl)
 have HQ0 := jh hq0
 have HQ1 := jh hq1
 have HQ2 := jh hq2
 clear hq0 hq1 hq2 hv hl hc hT hR hbL
 have HGC := jh hG
 clear hG
 have HB := jh (boxes2 w (sd.map bval) (ints .u8 (List.replicate 64 0)) 23 26)
 go_enter Tryz.func28, Tryz.ntmps28
 go_upto_region 1 with (fail)
 obtain ⟨H1, H2, HE⟩ := HB.out
 change Code.wp _ _ _ _ (World.alloc (World.alloc w (.cells (sd.map bval).toArray 23)) (.cells (ints .u8 (List.replicate 64 0)).toArray 26))
 generalize (World.alloc (World.alloc w (.cells (sd.map bval).toArray 23)) (.cells (ints .u8 (List.replicate 64 0)).toArray 26)) = wa at *
 obtain ⟨A, hA⟩ : ∃ A, A = w.heap.size := ⟨_, rfl⟩
 have HAW : Hid (w.heap.size ≤ A) := jh (by omega)
 rw [← hA] at H1 H2 ⊢
 have H1 := jh H1
 have H2 := jh H2
 have HE : Hid (Ext w wa) := jh HE
 clear hA HB
 go_wp2_with (first | (refine wpList_load_mid rfl _ _ rfl A 0 rfl _ _ (H1.out.range) q100 rfl (zac HSL.out) ?_))
 refine (csecrets_f sd _ HSL.out (HGR.out.ext HE.out)).mono ?_
 rintro e w5 ⟨rfl, hb⟩
 have H1 := xb H1 hb
 have H2 := xb H2 hb
 have HE := xt HE hb
 clear hb
 have HAL := jh (secA_length sd)
 have HHL := jh (secH_length sd)
 have HLA := jh (secA_lt sd)
 obtain ⟨av, hav⟩ : ∃ k, k = secA sd := ⟨_, rfl⟩
 obtain ⟨hv, hhv⟩ : ∃ k, k = secH sd := ⟨_, rfl⟩
 rw [← hav] at HAL HLA
 rw [← hhv] at HHL
 rw [← hav, ← hhv]
 have HAV := jh hav
 have HHV := jh hhv
 clear hav hhv
 have HB2 := jh (boxes2 w5 (ints .u8 (List.replicate 32 0)) (ints .u8 (List.replicate 32 0)) 23 23)
 have HL1 : Hid ((av.map bval).length = (ints .u8 (List.replicate 32 0)).length) := jh (by rw [q101, HAL.out]; rfl)
 have HL2 : Hid ((hv.map bval).length = (ints .u8 (List.replicate 32 0)).length) := jh (by rw [q101, HHL.out]; rfl)
 have HLT := jh (H2.out.lt)
 go_upto_region 2 with (first | (refine ssb w5.heap.size (av.map bval) HB2.out.1 HL1.out (zac HAL.out) (zaf _) ?_; intro w6 hs1 hg1) | (refine ssb (w5.heap.size + 1) (hv.map bval) (HB2.out.2.1.grown hg1 (by simp)) HL2.out (zac HHL.out) (zaf _) ?_; intro w7 hs2 hg2))
 have HX := jh (zab (zab HB2.out.2.2 hg1 (q102 _)) hg2 (Nat.le_succ _))
 have HSA := jh (hs1.grown hg2 (by simp))
 have HSH := jh hs2
 obtain ⟨pa, hT⟩ : ∃ T, T = w5.heap.size := ⟨_, rfl⟩
 rw [← hT] at HSA HSH HLT ⊢
 clear hT
 have H1 := xb H1 HX.out
 have H2 := xb H2 HX.out
 have HE := xt HE HX.out
 clear hs1 hs2 hg1 hg2 HX HB2 HL1 HL2
 generalize w7 = wd at *
 go_wp2_with fail
 refine swf 4 2 5 ?_
 refine sdk pa 0 (av.map bval) (fun w hw => (zad HSA.out hw).range) q100 (zac HAL.out) ?_
 simp only [nm]
 refine sdc [] (.agg (ptF bP.es).toArray) Tryz.call53 (fun w hw => cbase_f w (HGC.out.ext (HE.out.trans hw))) ?_
 simp only [nm]
 refine sdc [.agg (av.map bval).toArray, .agg (ptF bP.es).toArray] (.agg (ptF (crun bP.es (leN av) 255)).toArray) Tryz.call52 (fun w hw => ctimes_f w av bP.es HAL.out (HGC.out.ext (HE.out.trans hw))) ?_
 simp only [nm]
 refine sdc [.agg (ptF (crun bP.es (leN av) 255)).toArray] (.agg ((encB (pmul (leN av) bP)).map bval).toArray) Tryz.call51 (fun w hw => (by have h := cencoded_f w (crun bP.es (leN av) 255); rwa [enc_times HLA.out] at h)) ?_
 simp only [nm]
 refine zao (zep (k := 4) _ 7 (.tmp 20) (ints .u8 (List.replicate 32 0)) ((encB (pmul (leN av) bP)).map bval) rfl rfl (by kernel_rfl) (by kernel_rfl) (by kernel_rfl) (by kernel_rfl) (by kernel_rfl) rfl rfl rfl rfl (fun w => by rw [q109]; rfl) rfl (by simp) (fun p => rfl) (by rw [q101, (zbw _)]; rfl) (zac (zbw _)) (zaf _) (fun pk wk hp hb he => ?_))
 try simp only [nm]
 have H1 := xb H1 he
 have H2 := xb H2 he
 have HSA := xb HSA he
 have HSH := xb HSH he
 have HE := xt HE he
 have HPk := jh hp
 clear he hp
 have HVk := jh hb
 clear hb
 obtain ⟨kb, hkb⟩ : ∃ k, k = encB (pmul (leN av) bP) := ⟨_, rfl⟩
 rw [← hkb] at HVk
 have HNkb := jh hkb
 have HLkb : Hid (kb.length = 32) := jh (by rw [hkb]; exact zbw _)
 clear hkb
 go_wp2_with fail
 refine (dig_one _ ls hv _ (hv ++ m) _ (HVB.out.below HE.out) (zdi (n := 32) HSH.out (by rw [q101]; exact HHL.out) (by unfold maxLen; omega)) (by rw [HMM.out]) (by rw [q108, HHL.out]; have := HML.out; omega) HCT.out (HGR.out.ext HE.out) (HGT.out.ext HE.out)).mono ?_
 rintro e w8 ⟨rfl, hb⟩
 have H1 := xb H1 hb
 have H2 := xb H2 hb
 have HSA := xb HSA hb
 have HSH := xb HSH hb
 have HVk := xb HVk hb
 have HE := xt HE hb
 clear hb
 have HOL := jh (zcd (hv ++ m))
 have HOT := jh (wideB_lt (hv ++ m))
 obtain ⟨ob, hob⟩ : ∃ k, k = wideB (hv ++ m) := ⟨_, rfl⟩
 rw [← hob] at HOL HOT ⊢
 have HOB := jh hob
 clear hob
 have HZ := jh (Blk.made w8 (ints .u8 (List.replicate 32 0)) 23)
 have HEA := jh (Ext.alloc w8 (.cells (ints .u8 (List.replicate 32 0)).toArray 23))
 have HL : Hid ((ob.map bval).length = (ints .u8 (List.replicate 32 0)).length) := jh (by rw [q101, HOL.out]; rfl)
 go_upto_region 4 with (refine ssb w8.heap.size (ob.map bval) HZ.out HL.out (zac HOL.out) (zaf _) ?_; intro w7 hb hg)
 have HX := jh (zab HEA.out hg (q102 _))
 obtain ⟨po, hT⟩ : ∃ T, T = w8.heap.size := ⟨_, rfl⟩
 rw [← hT] at hb ⊢
 clear hT
 have H1 := xb H1 HX.out
 have H2 := xb H2 HX.out
 have HSA := xb HSA HX.out
 have HSH := xb HSH HX.out
 have HVk := xb HVk HX.out
 have HE := xt HE HX.out
 have HVo := jh hb
 clear hb hg HX HZ HEA HL
 generalize w7 = wo at *
 go_wp2_with fail
 refine swf 4 2 5 ?_
 refine sdk po 0 (ob.map bval) (fun w hw => (zad HVo.out hw).range) q100 (zac HOL.out) ?_
 simp only [nm]
 refine sdc [] (.agg (ptF bP.es).toArray) Tryz.call53 (fun w hw => cbase_f w (HGC.out.ext (HE.out.trans hw))) ?_
 simp only [nm]
 refine sdc [.agg (ob.map bval).toArray, .agg (ptF bP.es).toArray] (.agg (ptF (crun bP.es (leN ob) 255)).toArray) Tryz.call52 (fun w hw => ctimes_f w ob bP.es HOL.out (HGC.out.ext (HE.out.trans hw))) ?_
 simp only [nm]
 refine sdc [.agg (ptF (crun bP.es (leN ob) 255)).toArray] (.agg ((encB (pmul (leN ob) bP)).map bval).toArray) Tryz.call51 (fun w hw => (by have h := cencoded_f w (crun bP.es (leN ob) 255); rwa [enc_times HOT.out] at h)) ?_
 simp only [nm]
 refine zao (zep (k := 4) _ 9 (.tmp 28) (ints .u8 (List.replicate 32 0)) ((encB (pmul (leN ob) bP)).map bval) rfl rfl (by kernel_rfl) (by kernel_rfl) (by kernel_rfl) (by kernel_rfl) (by kernel_rfl) rfl rfl rfl rfl (fun w => by rw [q109]; rfl) rfl (by simp) (fun p => rfl) (by rw [q101, (zbw _)]; rfl) (zac (zbw _)) (zaf _) (fun pr wr hp hb he => ?_))
 try simp only [nm]
 have H1 := xb H1 he
 have H2 := xb H2 he
 have HSA := xb HSA he
 have HSH := xb HSH he
 have HVk := xb HVk he
 have HVo := xb HVo he
 have HE := xt HE he
 have HPr := jh hp
 clear he hp
 have HVr := jh hb
 clear hb
 obtain ⟨rb, hrb⟩ : ∃ k, k = encB (pmul (leN ob) bP) := ⟨_, rfl⟩
 rw [← hrb] at HVr
 have HNrb := jh hrb
 have HLrb : Hid (rb.length = 32) := jh (by rw [hrb]; exact zbw _)
 clear hrb
 go_wp2_with fail
 go_cut [10] from 29 to 33 (fun u10 wq => ∃ gq, u10 = .pointer (some ⟨gq, 0, none⟩) ∧ wr.heap.size ≤ gq ∧ Blk wq gq ((wideB (rb ++ (kb ++ m))).map bval) 23 ∧ Ext wr wq)
 case first =>
  have B0 : Ext wr wr.drew := Ext.drew _
  refine wp_region_held_drew (S := fun w' => Ext wr w') (by kernel_rfl) B0 (fun hW => ?_)
  refine tke 0 (.slice bA bL bC) rfl (zbm _ (.slice bA bL bC) (by rfl) rfl rfl) hW ?_
  simp only [nm]
  refine tke 1 (.slice (some ⟨pr, 0, none⟩) 32 32) rfl (zdy _ _ _ _ (.pointer (some ⟨pr, 0, none⟩)) (.slice (some ⟨pr, 0, none⟩) 32 32) none none (by rfl) rfl rfl rfl rfl (fun w => zej q100 q115 (by omega) _ w)) hW ?_
  simp only [nm]
  refine tke 2 (.slice (some ⟨pk, 0, none⟩) 32 32) rfl (zdy _ _ _ _ (.pointer (some ⟨pk, 0, none⟩)) (.slice (some ⟨pk, 0, none⟩) 32 32) none none (by rfl) rfl rfl rfl rfl (fun w => zej q100 q115 (by omega) _ w)) hW ?_
  simp only [nm]
  refine Fl.go (f := 5) (d := 10) (zs := (ints .u8 (List.replicate 32 0))) (T := 23) (B := (wr).heap.size) ?_ hW
  clear hW
  refine Fl.step 3 rfl rfl rfl rfl rfl (fun w => by rw [q109]; rfl) (fun _ _ h1 h2 => h1.trans h2) (fun _ h => h.size) (fun z1 u K hz1 hSz hK => ?_)
  have NZ1 : Ext wr z1 := B0.trans hz1
  clear hSz
  refine zbn (by rfl) ?_
  refine zbk (some 32) _ _ _ _ rfl rfl #[.slice (some ⟨pr, 0, none⟩) 32 32, .slice (some ⟨pk, 0, none⟩) 32 32] iq (.slice none 0 0) q141 HQ0.out HQ1.out (by rw [HQ2.out]; decide) (by rw [HQ2.out]; decide) (by rw [HQ2.out]; kernel_rfl) ?_
  obtain ⟨m1, hm1⟩ : ∃ wNew, wNew = World.alloc z1 (.cells #[.slice (some ⟨pr, 0, none⟩) 32 32, .slice (some ⟨pk, 0, none⟩) 32 32] 46) := ⟨_, rfl⟩
  rw [← hm1]
  have b1 : Ext z1 m1 := by rw [hm1]; exact Ext.alloc _ _
  obtain ⟨g1, hg1⟩ : ∃ gNew, gNew = (z1).heap.size := ⟨_, rfl⟩
  rw [← hg1]
  have r1 : Row1 m1 (.slice (some ⟨g1, 0, none⟩) 2 2) [.slice (some ⟨pr, 0, none⟩) 32 32, .slice (some ⟨pk, 0, none⟩) 32 32] := by rw [hm1, hg1]; exact Row1.made _ _ _ _ _ _ rfl rfl rfl (by unfold maxLen; omega)
  clear hm1 hg1
  have N1 : Ext wr m1 := NZ1.trans b1
  refine hK.out (.slice (some ⟨g1, 0, none⟩) 2 2) _ b1 N1 ?_
  clear hK K u
  try simp only [nm]
  refine Fl.step 4 rfl rfl rfl rfl rfl (fun w => by rw [q109]; rfl) (fun _ _ h1 h2 => h1.trans h2) (fun _ h => h.size) (fun z2 u K hz2 hSz hK => ?_)
  have r1 := r1.below hz2
  have NZ2 : Ext wr z2 := N1.trans hz2
  clear hSz
  go_simp
  refine (dig_two _ _ ls rb kb (rb ++ (kb ++ m)) _ (HVB.out.below (HE.out.trans NZ2)) (rowB2 r1 ((zdi (n := 32) HVr.out (by rw [q101]; exact HLrb.out) (by unfold maxLen; omega)).below NZ2) ((zdi (n := 32) HVk.out (by rw [q101]; exact HLkb.out) (by unfold maxLen; omega)).below NZ2)) (by rw [HMM.out]) (by rw [q108, q108, HLrb.out, HLkb.out]; have := HML.out; omega) HCT.out (HGR.out.ext (HE.out.trans NZ2)) (HGT.out.ext (HE.out.trans NZ2))).mono ?_
  rintro e m2 ⟨rfl, b2⟩
  have r1 := r1.below b2
  have N2 : Ext wr m2 := NZ2.trans b2
  refine hK.out (.agg ((wideB (rb ++ (kb ++ m))).map bval).toArray) _ b2 N2 ?_
  clear hK K u
  try simp only [nm]
  refine Fl.last rfl rfl rfl rfl (fun w => by rw [q109]; rfl) (fun _ _ h1 h2 => h1.trans h2) (fun _ h => h.size) (fun m3 g3 b3 hW l3 z3 => ?_)
  try simp only [nm]
  have r1 := r1.below b3
  have N3 : Ext wr m3 := N2.trans b3
  refine rdy 6 rfl fun K hK => ?_
  refine zbn (by rfl) ?_
  refine zak _ _ _ rfl g3 ((wideB (rb ++ (kb ++ m))).map bval) rfl rfl _ _ z3 (by rw [q101, (zcd _)]; rfl) (zac ((zcd _))) (zaf _) ?_
  intro m4 hb4 hg4
  have N4 : Ext wr m4 := zab N3 hg4 l3
  refine hK.out _ _ N4 (fun hW => ?_)
  clear hK K
  try simp only [nm]
  refine dne ?_
  go_wp2_with fail
  go_meet
  exact ⟨_, rfl, l3, hb4, N4⟩
 case rest =>
  obtain ⟨pq, rfl, hp0, hb0, hX⟩ := hcut
  have H1 := xb H1 hX
  have H2 := xb H2 hX
  have HSA := xb HSA hX
  have HSH := xb HSH hX
  have HVk := xb HVk hX
  have HVo := xb HVo hX
  have HVr := xb HVr hX
  have HE := xt HE hX
  have HPq := jh hp0
  clear hX hp0
  generalize wc = wq at *
  have HVq := jh hb0
  clear hb0
  obtain ⟨qb, hqb⟩ : ∃ k, k = wideB (rb ++ (kb ++ m)) := ⟨_, rfl⟩
  rw [← hqb] at HVq
  have HNqb := jh hqb
  have HLqb : Hid (qb.length = 32) := jh (by rw [hqb]; exact zcd _)
  clear hqb
  go_wp2_with fail
  refine swf 5 2 6 ?_
  refine sdk po 0 (ob.map bval) (fun w hw => (zad HVo.out hw).range) q100 (zac HOL.out) ?_
  simp only [nm]
  refine sdk pq 0 (qb.map bval) (fun w hw => (zad HVq.out hw).range) q100 (zac HLqb.out) ?_
  simp only [nm]
  refine sdk pa 0 (av.map bval) (fun w hw => (zad HSA.out hw).range) q100 (zac HAL.out) ?_
  simp only [nm]
  refine sdc [.agg (qb.map bval).toArray, .agg (av.map bval).toArray] (.agg ((nq (((leN qb : Nat) : Int) * ((leN av : Nat) : Int))).map bval).toArray) Tryz.call56 (fun w hw => scl_Mul_num qb av w HLqb.out HAL.out (HGT.out.ext (HE.out.trans hw))) ?_
  simp only [nm]
  refine sdc [.agg (ob.map bval).toArray, .agg ((nq (((leN qb : Nat) : Int) * ((leN av : Nat) : Int))).map bval).toArray] (.agg ((nq (((leN ob : Nat) : Int) + ((leN (nq (((leN qb : Nat) : Int) * ((leN av : Nat) : Int))) : Nat) : Int))).map bval).toArray) Tryz.call55 (fun w hw => scl_Add_num ob _ w HOL.out (zbu _) (HGT.out.ext (HE.out.trans hw))) ?_
  simp only [nm]
  refine zao (zep (k := 5) _ 11 (.tmp 38) (ints .u8 (List.replicate 32 0)) ((nq (((leN ob : Nat) : Int) + ((leN (nq (((leN qb : Nat) : Int) * ((leN av : Nat) : Int))) : Nat) : Int))).map bval) rfl rfl (by kernel_rfl) (by kernel_rfl) (by kernel_rfl) (by kernel_rfl) (by kernel_rfl) rfl rfl rfl rfl (fun w => by rw [q109]; rfl) rfl (by simp) (fun p => rfl) (by rw [q101, (zbu _)]; rfl) (zac (zbu _)) (zaf _) (fun ps ws hp hb he => ?_))
  try simp only [nm]
  have H1 := xb H1 he
  have H2 := xb H2 he
  have HSA := xb HSA he
  have HSH := xb HSH he
  have HVk := xb HVk he
  have HVo := xb HVo he
  have HVr := xb HVr he
  have HVq := xb HVq he
  have HE := xt HE he
  have HPs := jh hp
  clear he hp
  have HVs := jh hb
  clear hb
  obtain ⟨sb, hsb⟩ : ∃ k, k = nq (((leN ob : Nat) : Int) + ((leN (nq (((leN qb : Nat) : Int) * ((leN av : Nat) : Int))) : Nat) : Int)) := ⟨_, rfl⟩
  rw [← hsb] at HVs
  have HNsb := jh hsb
  have HLsb : Hid (sb.length = 32) := jh (by rw [hsb]; exact zbu _)
  clear hsb
  go_wp2_with fail
  refine swf 2 5 2 ?_
  refine zaw (.slice (some ⟨pr, 0, none⟩) 32 32) (by rfl) (fun w hw => by go_simp) ?_
  simp only [nm]
  refine zaw (.slice (some ⟨ps, 0, none⟩) 32 32) (by rfl) (fun w hw => by go_simp) ?_
  simp only [nm]
  refine zao (end_free (by kernel_rfl) (by rw [show Region.ready _ _ _ = [2] from by kernel_rfl]; simp) (fun wx hwx => ?_))
  have H1 := xb H1 hwx
  have H2 := xb H2 hwx
  have HSA := xb HSA hwx
  have HSH := xb HSH hwx
  have HVk := xb HVk hwx
  have HVo := xb HVo hwx
  have HVr := xb HVr hwx
  have HVq := xb HVq hwx
  have HVs := xb HVs hwx
  have HE := xt HE hwx
  clear hwx
  refine any_one (k := 2) rfl (by kernel_rfl) rfl ?_
  refine zbk (some 41) _ _ _ _ rfl rfl #[.slice (some ⟨pr, 0, none⟩) 32 32, .slice (some ⟨ps, 0, none⟩) 32 32] iq (.slice none 0 0) q141 HQ0.out HQ1.out (by rw [HQ2.out]; decide) (by rw [HQ2.out]; decide) (by rw [HQ2.out]; kernel_rfl) ?_
  simp only [nm]
  refine any_one (k := 3) rfl (by kernel_rfl) rfl ?_
  go_simp
  have HRr := zdi (n := 32) HVr.out (by rw [q101]; exact HLrb.out) (by unfold maxLen; omega)
  have HRs := zdi (n := 32) HVs.out (by rw [q101]; exact HLsb.out) (by unfold maxLen; omega)
  refine (cat_two _ _ rb sb wx HRr HRs (by rw [q108, HLrb.out, HLsb.out]; omega)).mono ?_
  rintro e wy ⟨z, rfl, hz, hb⟩
  have H1 := xb H1 hb
  have H2 := xb H2 hb
  have HSA := xb HSA hb
  have HSH := xb HSH hb
  have HVk := xb HVk hb
  have HVo := xb HVo hb
  have HVr := xb HVr hb
  have HVq := xb HVq hb
  have HVs := xb HVs hb
  have HE := xt HE hb
  clear hb
  obtain ⟨za, zc, hzf, _, _, _, hcell⟩ := hz
  rw [show ((rb ++ sb).map bval).length = 64 from by rw [q101, q108, HLrb.out, HLsb.out]] at hcell hzf
  subst hzf
  obtain ⟨zb, zo, rfl, _, hcell⟩ := hcell (by intro h; have h2 := congrArg List.length h; rw [q101, q108, HLrb.out, HLsb.out] at h2; cases h2)
  have HLG : Hid ((rb ++ sb).length = 64) := jh (by rw [q108, HLrb.out, HLsb.out])
  have hrg : wy.rangeAt zb zo ((rb ++ sb).map bval) := fun j x hj => by
   have hj2 : j < 64 := by
    rcases q116 j 64 with h | h
    ·exact h
    ·rw [List.getElem?_eq_none (by rw [q101, HLG.out]; omega)] at hj; cases hj
   rw [hcell j hj2]; exact hj
  obtain ⟨gb, hgb⟩ : ∃ k, k = rb ++ sb := ⟨_, rfl⟩
  rw [← hgb] at HLG hrg
  have HGB := jh hgb
  clear hcell hgb HRr HRs
  simp only [nm]
  refine any_one (k := 4) rfl (by kernel_rfl) rfl ?_
  refine wp_pure (some 43) (.pointer (some ⟨zb, zo, none⟩)) rfl (by have hat := run_arr_at (P := Tryz.prog) q119 (some ⟨zb, zo, none⟩) 64 zc (q102 _) wy; go_simp) ?_
  simp only [nm]
  refine any_one (k := 5) rfl (by kernel_rfl) rfl ?_
  refine wp_load_mid _ _ rfl zb zo rfl (gb.map bval) _ hrg q119 rfl (zcg HLG.out) ?_
  simp only [nm]
  refine any_one (k := 6) rfl (by kernel_rfl) rfl ?_
  refine zak _ _ _ rfl (A + 1) (gb.map bval) rfl rfl _ _ H2.out (by rw [q101, HLG.out]; rfl) (zcg HLG.out) (zaf _) ?_
  intro w9 hb9 hg9
  refine any_nil (by kernel_rfl) ?_
  go_wp2_with fail
  refine bodyPost_ret (zap (by rfl) _ (A + 1) _ _ _ (by rfl) hb9 q119 rfl (zcg HLG.out)) rfl ⟨?_, zab HE.out hg9 (by have := HAW.out; omega)⟩
  have hk1 : kb = edPub sd := by rw [HNkb.out, HAV.out]; rfl
  have ho1 : ob = edNum sd m := by rw [HOB.out, HHV.out]; rfl
  have hr1 : rb = edR sd m := by rw [HNrb.out, ho1]; rfl
  have hs1 : sb = edS sd m := by rw [HNsb.out, HNqb.out, hr1, hk1, ho1, HAV.out]; exact edS_of
  rw [HGB.out, hr1, hs1, HMM.out]
  rfl
def sgC (r s : List UInt8) : List Value := r.map bval ++ s.map bval
theorem sgC_eq (g : List UInt8) : sgC (g.take 32) (g.drop 32) = g.map bval := by
 unfold sgC
 rw [← q134, q117]
theorem mayB_some {n : List UInt8} (h : mayB n = true) : ∃ P, encB P = n := @of_decide_eq_true _ (Classical.propDecidable _) h
theorem mayB_none {n : List UInt8} (h : mayB n = false) : ¬ edMay n := @of_decide_eq_false _ (Classical.propDecidable _) h
theorem lessB_lt {l : List UInt8} (h : lessB l = true) : leN l < 2 ^ 255 := by
 unfold lessB at h
 rw [decide_eq_true_iff, ← qB_q] at h
 exact Nat.lt_trans (Int.ofNat_lt.1 h) (by decide +kernel)
theorem ver_dec {key r s m : List UInt8} {P : Pt} (hr : r.length = 32) (hP : encB P = key) (hs : lessB s = true) :
  decide (encB (padd (pmul (leN s) bP) (pmul (leN (wideB (r ++ (key ++ m)))) (pneg P))) = r) = verB key (r ++ s) m := by
 have h := ver_code (key := key) (g := r ++ s) (m := m) hP
 have h1 : (r ++ s).take 32 = r := by rw [q161 (by omega), q110 (by omega)]
 have h2 : (r ++ s).drop 32 = s := by rw [List.drop_append, q162 (by omega), q118, hr, q152, List.drop_zero]
 rw [h1, h2] at h
 by_cases he : encB (padd (pmul (leN s) bP) (pmul (leN (wideB (r ++ (key ++ m)))) (pneg P))) = r
 ·rw [decide_eq_true he, verB_true (h.2 ⟨hs, he⟩)]
 ·rw [decide_eq_false he, zeu (fun hv => he (h.1 hv).2)]
theorem ver_low {key r s m : List UInt8} (hr : r.length = 32) (hs : lessB s = false) : verB key (r ++ s) m = false := by
 refine zeu (ver_great ?_)
 have h2 : (r ++ s).drop 32 = s := by rw [List.drop_append, q162 (by omega), q118, hr, q152, List.drop_zero]
 rw [h2]
 exact hs
theorem enc_together {a b : List UInt8} {P : Pt} (ha : leN a < 2 ^ 255) (hb : leN b < 2 ^ 255) : encS (trun bP.es P.es.neg (leN a) (leN b) 255) = encB (padd (pmul (leN a) bP) (pmul (leN b) (pneg P))) :=
 encS_is (trun_full bP.es_is P.es_is.neg ha hb)
theorem cver_two (key rb sb : List UInt8) (v : Value) (ls : List (List UInt8)) (w : World) (hk : key.length = 32) (hr : rb.length = 32) (hs : sb.length = 32) (hv : RowB w v ls) (hl : ls.flatten.length ≤ 1000000000000) (hc : ls.length ≤ 1000000) (hR : GlobRQ w) (hT : GlobT w) (hG : GlobC w) : Calls Tryz.prog 33 #[.agg (key.map bval).toArray, .agg (sgC rb sb).toArray, v] w fun e w' => e = .returned (.bool (verB key (rb ++ sb) ls.flatten)) ∧ Below w.heap.size w w' := by
 have HKL := jh hk
 have HRL := jh hr
 have HSL := jh hs
 clear hk hr hs
 obtain ⟨m, hmm⟩ : ∃ m, m = ls.flatten := ⟨_, rfl⟩
 have HMM := jh hmm.symm
 rw [← hmm] at hl
 have HML := jh hl
 have HCT := jh hc
 have HVB := jh hv
 have HGT := jh hT
 have HGR := jh hR
 obtain ⟨bA, bC, hbf, _⟩ := rowB_form hv
 obtain ⟨bL, hbL⟩ : ∃ n, n = ls.length := ⟨_, rfl⟩
 rw [← hbL] at hbf
 subst hbf
 obtain ⟨iq, hq0, hq1, hq2⟩ := info_two (P := Tryz.prog) (t := 46) (z := .slice none 0 0) (n := 1) (by kernel_rfl)
 have HQ0 := jh hq0
 have HQ1 := jh hq1
 have HQ2 := jh hq2
 clear hq0 hq1 hq2 hv hl hc hT hR hbL
 have HGC := jh hG
 clear hG
 have HB := jh (boxes2 w (key.map bval) (sgC rb sb) 23 26)
 go_enter Tryz.func33, Tryz.ntmps33
 go_upto_region 1 with (fail)
 obtain ⟨H1, H2, HE⟩ := HB.out
 change Code.wp _ _ _ _ (World.alloc (World.alloc w (.cells (key.map bval).toArray 23)) (.cells (sgC rb sb).toArray 26))
 generalize (World.alloc (World.alloc w (.cells (key.map bval).toArray 23)) (.cells (sgC rb sb).toArray 26)) = wa at *
 obtain ⟨A, hA⟩ : ∃ A, A = w.heap.size := ⟨_, rfl⟩
 have HAW : Hid (w.heap.size ≤ A) := jh (by omega)
 rw [← hA] at H1 H2 ⊢
 have H1 := jh H1
 have H2 := jh H2
 have HE : Hid (Ext w wa) := jh HE
 clear hA HB
 have hat1 := run_arr_at (P := Tryz.prog) q100 (some ⟨A + 1, 0, none⟩) 32 64 (q102 _)
 have hat2 := run_arr_at (P := Tryz.prog) q100 (some ⟨A + 1, 32, none⟩) 32 32 (q102 _)
 have HLA := jh H2.out.lt
 refine swf 6 4 8 ?_
 refine zaw (.slice (some ⟨A + 1, 0, none⟩) 32 64) (by rfl) (fun w hw => by go_simp) ?_
 simp only [nm]
 refine zaw (.pointer (some ⟨A + 1, 0, none⟩)) (by rfl) (fun w hw => by go_simp) ?_
 simp only [nm]
 refine sdk (A + 1) 0 (rb.map bval) (fun w hw => rng_lo (zad H2.out hw).range) q100 (zac HRL.out) ?_
 simp only [nm]
 refine zaw (.slice (some ⟨A + 1, 32, none⟩) 32 32) (by rfl) (fun w hw => by go_simp) ?_
 simp only [nm]
 refine zaw (.pointer (some ⟨A + 1, 32, none⟩)) (by rfl) (fun w hw => by go_simp) ?_
 simp only [nm]
 refine sdk (A + 1) 32 (sb.map bval) (fun w hw => rng_hi (m := 32) (zad H2.out hw).range (by rw [q101]; exact HRL.out) rfl) q100 (zac HSL.out) ?_
 simp only [nm]
 refine zao (end_var2 (k := 6) 23 7 8 (.tmp 14) (.tmp 17) (ints .u8 (List.replicate 32 0)) (rb.map bval) (sb.map bval) rfl rfl rfl rfl (by kernel_rfl) (by kernel_rfl) (by kernel_rfl) (by kernel_rfl) (by kernel_rfl) (by kernel_rfl) (by kernel_rfl) (by kernel_rfl) (by kernel_rfl) (by kernel_rfl) rfl rfl rfl rfl rfl rfl rfl rfl (by decide) (fun w => by rw [q109]; rfl) rfl rfl rfl rfl (by simp) (by simp) (fun p q => rfl) (fun p q => rfl) (by rw [q101, HRL.out]; rfl) (by rw [q101, HSL.out]; rfl) (zac HRL.out) (zac HSL.out) (zaf _) (zaf _) (fun pr ps ws hpq hp1 hp2 hb1 hb2 he => ?_))
 try simp only [nm]
 have H1 := xb H1 he
 have H2 := xb H2 he
 have HE := xt HE he
 have HPQ := jh hpq
 have HPr := jh hp1
 have HPs := jh hp2
 clear he hpq hp1 hp2
 have HVr := jh hb1
 have HVs := jh hb2
 clear hb1 hb2
 clear hat1 hat2
 go_wp2_with (first | (refine wpList_load_mid rfl _ _ rfl A 0 rfl _ _ (H1.out.range) q100 rfl (zac HKL.out) ?_))
 refine (cdecoded_f _ key HKL.out (HGC.out.ext HE.out)).mono ?_
 rintro e w8 ⟨rfl, hb⟩
 have H1 := xb H1 hb
 have H2 := xb H2 hb
 have HVr := xb HVr hb
 have HVs := xb HVs hb
 have HE := xt HE hb
 clear hb
 obtain ⟨es, hes⟩ : ∃ k, k = decE key := ⟨_, rfl⟩
 obtain ⟨mb, hmb⟩ : ∃ k, k = mayB key := ⟨_, rfl⟩
 rw [← hes, ← hmb]
 have HES := jh hes
 have HMB := jh hmb
 clear hes hmb
 have HZ := jh (Blk.made w8 zq 85)
 have HEA := jh (Ext.alloc w8 (.cells zq.toArray 85))
 have HL : Hid ((ptF es).length = zq.length) := jh ((zat _).trans zq_length.symm)
 go_upto_region 3 with (refine ssb w8.heap.size (ptF es) HZ.out HL.out (zar _) (zcf _) ?_; intro w7 hb hg)
 have HX := jh (zab HEA.out hg (q102 _))
 generalize w8.heap.size = pa at *
 have H1 := xb H1 HX.out
 have H2 := xb H2 HX.out
 have HVr := xb HVr HX.out
 have HVs := xb HVs HX.out
 have HE := xt HE HX.out
 have HVa := jh hb
 clear hb hg HX HZ HEA HL
 generalize w7 = w9 at *
 cases mb
 ·skip
  have HV : Hid (verB key (rb ++ sb) ls.flatten = false) := jh (zeu (ver_no_key (mayB_none HMB.out.symm)))
  go_wp2_with fail
  go_ret
  exact ⟨by rw [HV.out]; rfl, HE.out⟩
 ·obtain ⟨P, hP⟩ := mayB_some HMB.out.symm
  have HPK := jh hP
  have hes : es = P.es := by rw [HES.out]; exact decE_of hP
  subst hes
  clear hP HES HMB
  go_wp2_with (refine zbo (by rfl) _ _ rfl ps rfl _ _ _ _ HVs.out q100 (zac HSL.out) ?_)
  refine (Less_num sb _ HSL.out (HGT.out.ext HE.out)).mono ?_
  rintro e wl ⟨rfl, hb⟩
  have H1 := xb H1 hb
  have H2 := xb H2 hb
  have HVr := xb HVr hb
  have HVs := xb HVs hb
  have HVa := xb HVa hb
  have HE := xt HE hb
  clear hb
  obtain ⟨lb, hlb⟩ : ∃ k, lessB sb = k := ⟨_, rfl⟩
  rw [hlb]
  have HLB := jh hlb
  clear hlb
  cases lb
  ·skip
   have HV : Hid (verB key (rb ++ sb) ls.flatten = false) := jh (ver_low HRL.out HLB.out)
   go_wp2_with fail
   go_ret
   exact ⟨by rw [HV.out]; rfl, HE.out⟩
  ·go_wp2_with fail
   have HLS := jh (lessB_lt HLB.out)
   go_cut [11] from 30 to 34 (fun u11 wq => ∃ gq, u11 = .pointer (some ⟨gq, 0, none⟩) ∧ wl.heap.size ≤ gq ∧ Blk wq gq ((wideB (rb ++ (key ++ m))).map bval) 23 ∧ Ext wl wq)
   case first =>
    have B0 : Ext wl wl.drew := Ext.drew _
    refine wp_region_held_drew (S := fun w' => Ext wl w') (by kernel_rfl) B0 (fun hW => ?_)
    refine tke 0 (.slice bA bL bC) rfl (zbm _ (.slice bA bL bC) (by rfl) rfl rfl) hW ?_
    simp only [nm]
    refine tke 1 (.slice (some ⟨pr, 0, none⟩) 32 32) rfl (zdy _ _ _ _ (.pointer (some ⟨pr, 0, none⟩)) (.slice (some ⟨pr, 0, none⟩) 32 32) none none (by rfl) rfl rfl rfl rfl (fun w => zej q100 q115 (by omega) _ w)) hW ?_
    simp only [nm]
    refine tke 2 (.slice (some ⟨A, 0, none⟩) 32 32) rfl (zdy _ _ _ _ (.pointer (some ⟨A, 0, none⟩)) (.slice (some ⟨A, 0, none⟩) 32 32) none none (by rfl) rfl rfl rfl rfl (fun w => zej q100 q115 (by omega) _ w)) hW ?_
    simp only [nm]
    refine Fl.go (f := 5) (d := 11) (zs := (ints .u8 (List.replicate 32 0))) (T := 23) (B := (wl).heap.size) ?_ hW
    clear hW
    refine Fl.step 3 rfl rfl rfl rfl rfl (fun w => by rw [q109]; rfl) (fun _ _ h1 h2 => h1.trans h2) (fun _ h => h.size) (fun z1 u K hz1 hSz hK => ?_)
    have NZ1 : Ext wl z1 := B0.trans hz1
    clear hSz
    refine zbn (by rfl) ?_
    refine zbk (some 33) _ _ _ _ rfl rfl #[.slice (some ⟨pr, 0, none⟩) 32 32, .slice (some ⟨A, 0, none⟩) 32 32] iq (.slice none 0 0) q141 HQ0.out HQ1.out (by rw [HQ2.out]; decide) (by rw [HQ2.out]; decide) (by rw [HQ2.out]; kernel_rfl) ?_
    obtain ⟨m1, hm1⟩ : ∃ wNew, wNew = World.alloc z1 (.cells #[.slice (some ⟨pr, 0, none⟩) 32 32, .slice (some ⟨A, 0, none⟩) 32 32] 46) := ⟨_, rfl⟩
    rw [← hm1]
    have b1 : Ext z1 m1 := by rw [hm1]; exact Ext.alloc _ _
    obtain ⟨g1, hg1⟩ : ∃ gNew, gNew = (z1).heap.size := ⟨_, rfl⟩
    rw [← hg1]
    have r1 : Row1 m1 (.slice (some ⟨g1, 0, none⟩) 2 2) [.slice (some ⟨pr, 0, none⟩) 32 32, .slice (some ⟨A, 0, none⟩) 32 32] := by rw [hm1, hg1]; exact Row1.made _ _ _ _ _ _ rfl rfl rfl (by unfold maxLen; omega)
    clear hm1 hg1
    have N1 : Ext wl m1 := NZ1.trans b1
    refine hK.out (.slice (some ⟨g1, 0, none⟩) 2 2) _ b1 N1 ?_
    clear hK K u
    try simp only [nm]
    refine Fl.step 4 rfl rfl rfl rfl rfl (fun w => by rw [q109]; rfl) (fun _ _ h1 h2 => h1.trans h2) (fun _ h => h.size) (fun z2 u K hz2 hSz hK => ?_)
    have r1 := r1.below hz2
    have NZ2 : Ext wl z2 := N1.trans hz2
    clear hSz
    go_simp
    refine (dig_two _ _ ls rb key (rb ++ (key ++ m)) _ (HVB.out.below (HE.out.trans NZ2)) (rowB2 r1 ((zdi (n := 32) HVr.out (by rw [q101]; exact HRL.out) (by unfold maxLen; omega)).below NZ2) ((zdi (n := 32) H1.out (by rw [q101]; exact HKL.out) (by unfold maxLen; omega)).below NZ2)) (by rw [HMM.out]) (by rw [q108, q108, HRL.out, HKL.out]; have := HML.out; omega) HCT.out (HGR.out.ext (HE.out.trans NZ2)) (HGT.out.ext (HE.out.trans NZ2))).mono ?_
    rintro e m2 ⟨rfl, b2⟩
    have r1 := r1.below b2
    have N2 : Ext wl m2 := NZ2.trans b2
    refine hK.out (.agg ((wideB (rb ++ (key ++ m))).map bval).toArray) _ b2 N2 ?_
    clear hK K u
    try simp only [nm]
    refine Fl.last rfl rfl rfl rfl (fun w => by rw [q109]; rfl) (fun _ _ h1 h2 => h1.trans h2) (fun _ h => h.size) (fun m3 g3 b3 hW l3 z3 => ?_)
    try simp only [nm]
    have r1 := r1.below b3
    have N3 : Ext wl m3 := N2.trans b3
    refine rdy 6 rfl fun K hK => ?_
    refine zbn (by rfl) ?_
    refine zak _ _ _ rfl g3 ((wideB (rb ++ (key ++ m))).map bval) rfl rfl _ _ z3 (by rw [q101, (zcd _)]; rfl) (zac ((zcd _))) (zaf _) ?_
    intro m4 hb4 hg4
    have N4 : Ext wl m4 := zab N3 hg4 l3
    refine hK.out _ _ N4 (fun hW => ?_)
    clear hK K
    try simp only [nm]
    refine dne ?_
    go_wp2_with fail
    go_meet
    exact ⟨_, rfl, l3, hb4, N4⟩
   case rest =>
    obtain ⟨pq, rfl, hp0, hb0, hX⟩ := hcut
    have H1 := xb H1 hX
    have H2 := xb H2 hX
    have HVr := xb HVr hX
    have HVs := xb HVs hX
    have HVa := xb HVa hX
    have HE := xt HE hX
    have HPq := jh hp0
    clear hX hp0
    generalize wc = wq at *
    have HVq := jh hb0
    clear hb0
    obtain ⟨qb, hqb⟩ : ∃ k, k = wideB (rb ++ (key ++ m)) := ⟨_, rfl⟩
    rw [← hqb] at HVq
    have HNqb := jh hqb
    have HLqb : Hid (qb.length = 32) := jh (by rw [hqb]; exact zcd _)
    clear hqb
    have HLQ : Hid (leN qb < 2 ^ 255) := jh (by rw [HNqb.out]; exact wideB_lt _)
    go_wp2_with fail
    obtain ⟨vb, hvb⟩ : ∃ k, decide (encB (padd (pmul (leN sb) bP) (pmul (leN qb) (pneg P))) = rb) = k := ⟨_, rfl⟩
    have HVD := jh hvb
    clear hvb
    refine zbb (by kernel_rfl) (by kernel_rfl) ?_
    refine sdk ps 0 (sb.map bval) (fun w hw => (zad HVs.out hw).range) q100 (zac HSL.out) ?_
    simp only [nm]
    refine sdc [] (.agg (ptF bP.es).toArray) Tryz.call53 (fun w hw => cbase_f w (HGC.out.ext (HE.out.trans hw))) ?_
    simp only [nm]
    refine sdk pq 0 (qb.map bval) (fun w hw => (zad HVq.out hw).range) q100 (zac HLqb.out) ?_
    simp only [nm]
    refine sdk pa 0 (ptF P.es) (fun w hw => (zad HVa.out hw).range) q113 (zar _) ?_
    simp only [nm]
    refine sdc [.agg (ptF P.es).toArray] (.agg (ptF P.es.neg).toArray) Tryz.call64 (fun w hw => cneg_f w P.es) ?_
    simp only [nm]
    refine sdc [.agg (sb.map bval).toArray, .agg (ptF bP.es).toArray, .agg (qb.map bval).toArray, .agg (ptF P.es.neg).toArray] (.agg (ptF (trun bP.es P.es.neg (leN sb) (leN qb) 255)).toArray) Tryz.call63 (fun w hw => ctogether_f w sb qb bP.es P.es.neg HSL.out HLqb.out (HGC.out.ext (HE.out.trans hw))) ?_
    simp only [nm]
    refine sdc [.agg (ptF (trun bP.es P.es.neg (leN sb) (leN qb) 255)).toArray] (.agg ((encB (padd (pmul (leN sb) bP) (pmul (leN qb) (pneg P)))).map bval).toArray) Tryz.call51 (fun w hw => (by have h := cencoded_f w (trun bP.es P.es.neg (leN sb) (leN qb) 255); rwa [enc_together HLS.out HLQ.out] at h)) ?_
    simp only [nm]
    refine sdk pr 0 (rb.map bval) (fun w hw => (zad HVr.out hw).range) q100 (zac HRL.out) ?_
    simp only [nm]
    refine det_eql .eql _ _ _ _ _ 32 _ _ _ vb (by rfl) rfl (Or.inl ⟨rfl, HVD.out⟩) q100 q111 zch zby zcb rfl rfl (zbw _) HRL.out ?_
    simp only [nm]
    refine zbi _ (.bool vb) (by rfl) rfl rfl ?_
    simp only [nm]
    refine zao (fun wz hwz => ?_)
    have HE := xt HE hwz
    go_wp2_with fail
    go_ret
    refine ⟨?_, HE.out⟩
    rw [HMM.out, ← ver_dec HRL.out HPK.out HLB.out, ← HNqb.out, HVD.out]
    rfl
theorem CVer_num (key g : List UInt8) (v : Value) (ls : List (List UInt8)) (w : World) (hk : key.length = 32) (hg : g.length = 64) (hv : RowB w v ls) (hl : ls.flatten.length ≤ 1000000000000) (hc : ls.length ≤ 1000000) (hR : GlobRQ w) (hT : GlobT w) (hG : GlobC w) : Calls Tryz.prog 33 #[.agg (key.map bval).toArray, .agg (g.map bval).toArray, v] w fun e w' => e = .returned (.bool (verB key g ls.flatten)) ∧ Below w.heap.size w w' := by
 have h := cver_two key (g.take 32) (g.drop 32) v ls w hk (by rw [q112, hg]; rfl) (by rw [q139, hg]) hv hl hc hR hT hG
 rwa [sgC_eq, q117] at h
theorem pck_i64wrap (n : Int) : IntKind.i64.wrap n = wrap64 n := IntWalk.i64_left n
theorem pck_row_nums {w : World} {b off : Nat} {zs : List Int} (h : ∀ i, i < (zs.map (Value.int .i64)).length → w.cell? ⟨b, off + i, none⟩ = (zs.map (Value.int .i64))[i]?) :
  ∀ i, i < zs.length → w.cell? ⟨b, off + i, none⟩ = some (.int .i64 (zs.getD i 0)) := by
 intro i hi
 rw [h i (by simpa using hi)]
 simp [List.getD, hi]
theorem room_any {bv : Value} {bl : List UInt8} (r : Nat) (w : World) (hb : Row1 w bv (bl.map bval)) (hsz : bl.length + r ≤ 1099511627776) :
  Calls Tryz.prog 100 #[bv, .int .i64 r] w fun e w' => ∃ v, e = .returned v ∧ w'.ownsRow w.heap.size 5 1 v bl.length (bl.map bval) ∧ Below w.heap.size w w' := by
 obtain ⟨i0, hi, hz0, hz1, hz2⟩ := info_parts Tryz.info5
 have hb0 := hb
 obtain ⟨a, cap, rfl, h1, h2, h3, h4⟩ := hb
 rw [q101] at h1 hb0 ⊢
 unfold maxLen at h2
 clear h3 h4
 have hr0 : (0 : Int) ≤ (r : Int) := Int.natCast_nonneg _
 obtain ⟨wm, hmk, hmo, hmg⟩ := run_make_own (P := Tryz.prog) w w.heap.size 46 5 i0 (.int .u8 0) 1 q107 hi hz0 hz1 .i64 .i64 (bl.length + r) (by rw [hz2]; omega) (by unfold maxLen; omega) (q102 _)
 rw [show ((bl.length + r : Nat) : Int) = (bl.length : Int) + (r : Int) from by omega] at hmk
 have hrb := jh (hb0.grown hmg (fun k hk => by cases hk))
 have HMO := jh hmo
 have HMG := jh hmg
 have hbl : Hid ((bl.map bval).length = bl.length) := jh (by simp)
 clear hmo hmg hb0
 go_enter Tryz.func100, Tryz.ntmps100
 go_wp2_with (at_builtin; refine zam rfl _ _ 46 rfl w.heap.size 5 i0 (.int .u8 0) 1 q107 hi hz0 hz1 hz2 rfl _ 0 [] rfl HMO.out rfl hrb.out (zaf _) (by rw [hbl.out]; unfold maxLen; omega) (by rw [hbl.out]; omega) HMG.out.size ?_; intro v2 w2 hown2 hgrow2)
 have hb2 : Below w.heap.size w w2 := ((Below.refl _ _).grown HMG.out (q102 _) (fun r hr => by cases hr)).grown hgrow2 HMG.out.size (fun r hr => (HMO.out.lt r hr).1)
 rw [q118, hbl.out, q125] at hown2
 have HO := jh hown2
 have HB := jh hb2
 clear hown2 hgrow2 hb2
 go_wp2_with fail
 go_ret
 exact ⟨_, rfl, HO.out, HB.out⟩
theorem be8_cells (n : Int) : (pck_be8 n).map bval = [.int .u8 (n / 72057594037927936 % 256), .int .u8 (n / 281474976710656 % 256), .int .u8 (n / 1099511627776 % 256), .int .u8 (n / 4294967296 % 256), .int .u8 (n / 16777216 % 256), .int .u8 (n / 65536 % 256), .int .u8 (n / 256 % 256), .int .u8 (n % 256)] := by
 simp [pck_be8, byte_cell]
theorem appnum_any (base : Nat) (ov : Value) (m : Nat) (xs : List Value) (n : Int) (w : World) (ho : w.ownsRow base 5 1 ov m xs) (hbase : base ≤ w.heap.size) (hm : m ≤ 1099511627776) :
  Calls Tryz.prog 101 #[ov, .int .i64 n] w fun e w' => ∃ v, e = .returned v ∧ w'.ownsRow base 5 1 v (m + 8) (xs ++ (pck_be8 n).map bval) ∧ Below base w w' := by
 obtain ⟨i0, hi, hz0, hz1, hz2⟩ := info_parts Tryz.info5
 have HO := jh ho
 have HB := jh (Below.refl base w)
 have hbase0 := hbase
 clear ho
 go_enter Tryz.func101, Tryz.ntmps101
 go_wp2_with fail
 refine wp_loop_rounds 9 ?_
 rw [rounds_succ]
 go_wp2_with (at_builtin; refine zam rfl _ _ 46 rfl base 5 i0 (.int .u8 0) 1 q107 hi hz0 hz1 hz2 rfl _ (m + 0) _ rfl (HO.out.alloc _) rfl (Row1.made _ _ _ _ 1 _ rfl rfl rfl (by unfold maxLen; omega)) (by simp [Value.oneCell']) (by unfold maxLen; simp; omega) (by simp; omega) (by simp; omega) ?_; intro v1 w1 hown1 hgrow1)
 have hb1 := (HB.out.alloc hbase _).grown hgrow1 (by simp; omega) (fun r hr => (HO.out.lt r hr).1)
 have hbase := q121 hbase0 hb1.size
 clear HO HB
 have HO := jh hown1
 have HB := jh hb1
 clear hown1 hb1 hgrow1
 rw [rounds_succ]
 go_wp2_with (at_builtin; refine zam rfl _ _ 46 rfl base 5 i0 (.int .u8 0) 1 q107 hi hz0 hz1 hz2 rfl _ (m + 1) _ rfl (HO.out.alloc _) rfl (Row1.made _ _ _ _ 1 _ rfl rfl rfl (by unfold maxLen; omega)) (by simp [Value.oneCell']) (by unfold maxLen; simp; omega) (by simp; omega) (by simp; omega) ?_; intro v2 w2 hown2 hgrow2)
 have hb2 := (HB.out.alloc hbase _).grown hgrow2 (by simp; omega) (fun r hr => (HO.out.lt r hr).1)
 have hbase := q121 hbase0 hb2.size
 clear HO HB
 have HO := jh hown2
 have HB := jh hb2
 clear hown2 hb2 hgrow2
 rw [rounds_succ]
 go_wp2_with (at_builtin; refine zam rfl _ _ 46 rfl base 5 i0 (.int .u8 0) 1 q107 hi hz0 hz1 hz2 rfl _ (m + 2) _ rfl (HO.out.alloc _) rfl (Row1.made _ _ _ _ 1 _ rfl rfl rfl (by unfold maxLen; omega)) (by simp [Value.oneCell']) (by unfold maxLen; simp; omega) (by simp; omega) (by simp; omega) ?_; intro v3 w3 hown3 hgrow3)
 have hb3 := (HB.out.alloc hbase _).grown hgrow3 (by simp; omega) (fun r hr => (HO.out.lt r hr).1)
 have hbase := q121 hbase0 hb3.size
 clear HO HB
 have HO := jh hown3
 have HB := jh hb3
 clear hown3 hb3 hgrow3
 rw [rounds_succ]
 go_wp2_with (at_builtin; refine zam rfl _ _ 46 rfl base 5 i0 (.int .u8 0) 1 q107 hi hz0 hz1 hz2 rfl _ (m + 3) _ rfl (HO.out.alloc _) rfl (Row1.made _ _ _ _ 1 _ rfl rfl rfl (by unfold maxLen; omega)) (by simp [Value.oneCell']) (by unfold maxLen; simp; omega) (by simp; omega) (by simp; omega) ?_; intro v4 w4 hown4 hgrow4)
 have hb4 := (HB.out.alloc hbase _).grown hgrow4 (by simp; omega) (fun r hr => (HO.out.lt r hr).1)
 have hbase := q121 hbase0 hb4.size
 clear HO HB
 have HO := jh hown4
 have HB := jh hb4
 clear hown4 hb4 hgrow4
 rw [rounds_succ]
 go_wp2_with (at_builtin; refine zam rfl _ _ 46 rfl base 5 i0 (.int .u8 0) 1 q107 hi hz0 hz1 hz2 rfl _ (m + 4) _ rfl (HO.out.alloc _) rfl (Row1.made _ _ _ _ 1 _ rfl rfl rfl (by unfold maxLen; omega)) (by simp [Value.oneCell']) (by unfold maxLen; simp; omega) (by simp; omega) (by simp; omega) ?_; intro v5 w5 hown5 hgrow5)
 have hb5 := (HB.out.alloc hbase _).grown hgrow5 (by simp; omega) (fun r hr => (HO.out.lt r hr).1)
 have hbase := q121 hbase0 hb5.size
 clear HO HB
 have HO := jh hown5
 have HB := jh hb5
 clear hown5 hb5 hgrow5
 rw [rounds_succ]
 go_wp2_with (at_builtin; refine zam rfl _ _ 46 rfl base 5 i0 (.int .u8 0) 1 q107 hi hz0 hz1 hz2 rfl _ (m + 5) _ rfl (HO.out.alloc _) rfl (Row1.made _ _ _ _ 1 _ rfl rfl rfl (by unfold maxLen; omega)) (by simp [Value.oneCell']) (by unfold maxLen; simp; omega) (by simp; omega) (by simp; omega) ?_; intro v6 w6 hown6 hgrow6)
 have hb6 := (HB.out.alloc hbase _).grown hgrow6 (by simp; omega) (fun r hr => (HO.out.lt r hr).1)
 have hbase := q121 hbase0 hb6.size
 clear HO HB
 have HO := jh hown6
 have HB := jh hb6
 clear hown6 hb6 hgrow6
 rw [rounds_succ]
 go_wp2_with (at_builtin; refine zam rfl _ _ 46 rfl base 5 i0 (.int .u8 0) 1 q107 hi hz0 hz1 hz2 rfl _ (m + 6) _ rfl (HO.out.alloc _) rfl (Row1.made _ _ _ _ 1 _ rfl rfl rfl (by unfold maxLen; omega)) (by simp [Value.oneCell']) (by unfold maxLen; simp; omega) (by simp; omega) (by simp; omega) ?_; intro v7 w7 hown7 hgrow7)
 have hb7 := (HB.out.alloc hbase _).grown hgrow7 (by simp; omega) (fun r hr => (HO.out.lt r hr).1)
 have hbase := q121 hbase0 hb7.size
 clear HO HB
 have HO := jh hown7
 have HB := jh hb7
 clear hown7 hb7 hgrow7
 rw [rounds_succ]
 go_wp2_with (at_builtin; refine zam rfl _ _ 46 rfl base 5 i0 (.int .u8 0) 1 q107 hi hz0 hz1 hz2 rfl _ (m + 7) _ rfl (HO.out.alloc _) rfl (Row1.made _ _ _ _ 1 _ rfl rfl rfl (by unfold maxLen; omega)) (by simp [Value.oneCell']) (by unfold maxLen; simp; omega) (by simp; omega) (by simp; omega) ?_; intro v8 w8 hown8 hgrow8)
 have hb8 := (HB.out.alloc hbase _).grown hgrow8 (by simp; omega) (fun r hr => (HO.out.lt r hr).1)
 have hbase := q121 hbase0 hb8.size
 clear HO HB
 have HO := jh hown8
 have HB := jh hb8
 clear hown8 hb8 hgrow8
 rw [rounds_succ]
 go_wp2_with fail
 go_ret
 refine ⟨_, rfl, ?_, HB.out⟩
 rw [be8_cells]
 simpa using HO.out
theorem pint_loop (bv : Value) (bl : List UInt8) (b off cap n : Nat) (ns : List Int) (w : World) (hb : Row1 w bv (bl.map bval)) (hn : ns.length = n) (hn0 : 0 < n) (hcap : n ≤ cap) (hm : cap ≤ maxLen) (hbw : b < w.heap.size)
  (hx : ∀ i, i < ns.length → w.cell? ⟨b, off + i, none⟩ = some (.int .i64 (ns.getD i 0))) (hsz : bl.length + 8 * n ≤ 1099511627776) :
  Calls Tryz.prog 57 #[bv, .slice (some ⟨b, off, none⟩) n cap] w fun e w' => ∃ v, e = .returned v ∧ w'.ownsRow w.heap.size 5 1 v (bl.length + 8 * n) ((bl ++ be8s ns).map bval) ∧ Below w.heap.size w w' := by
 unfold maxLen at hm
 have HX := jh hx
 have HN := jh hn
 have hroom := room_any (8 * n) w hb (by omega)
 rw [show ((8 * n : Nat) : Int) = 8 * (n : Int) from by omega] at hroom
 have HR := jh hroom
 clear hx hn hb hroom
 go_enter Tryz.func57, Tryz.ntmps57
 go_wp2_with fail
 refine HR.out.mono ?_
 rintro e w1 ⟨v1, rfl, hown1, hbel1⟩
 have HO1 := jh hown1
 have HB1 := jh hbel1
 clear hown1 hbel1
 go_wp2_with fail
 go_loopw [5, 15] (fun v i wr => ∃ k : Nat, k ≤ n ∧ i = .int .i64 k ∧ wr.ownsRow w.heap.size 5 1 v (bl.length + 8 * k) ((bl ++ be8s (ns.take k)).map bval) ∧ Below w.heap.size w wr) (fun _ i _ => n - (intOf i).toNat)
 case atStart => exact ⟨0, q149 _, rfl, by simpa [be8s] using HO1.out, HB1.out⟩
 case round =>
  obtain ⟨k, hk, rfl, hown, hbel⟩ := hrel
  by_cases hlt : k < n
  ·have hn := HN.out
   have c1 := hbel.cell (p := ⟨b, off + k, none⟩) hbw
   rw [HX.out k (by omega)] at c1
   have i0' : (0 : Int) ≤ (k : Int) := Int.natCast_nonneg _
   have i1 : (k : Int) < (n : Int) := by omega
   have hnext : be8s (ns.take (k + 1)) = be8s (ns.take k) ++ pck_be8 (ns.getD k 0) := by
    rw [q159 (by omega), be8s_snoc]
    simp [List.getD, show k < ns.length from by omega]
   generalize ns.getD k 0 = x at *
   have HA := jh (appnum_any w.heap.size _ _ _ x wr hown hbel.size (by omega))
   have HBE := jh hbel
   have HNX := jh hnext
   clear hn hown hbel hnext
   go_wp2_with fail
   refine HA.out.mono ?_
   rintro e w2 ⟨v2, rfl, hown2, hbel2⟩
   have hown3 : w2.ownsRow w.heap.size 5 1 v2 (bl.length + 8 * (k + 1)) ((bl ++ be8s (ns.take (k + 1))).map bval) := by
    rw [HNX.out, ← q137, q134]
    exact hown2
   have hbel3 := HBE.out.trans hbel2
   clear hown2 hbel2
   have HO3 := jh hown3
   have HB3 := jh hbel3
   clear hown3 hbel3
   go_wp2_with fail
   go_roundw
   case rel => exact ⟨k + 1, by omega, by go_num, HO3.out, HB3.out⟩
   case measure => simp [intOf]; omega
  ·have hk' : k = n := by omega
   subst hk'
   have hn := HN.out
   rw [q110 (by omega)] at hown
   have HO := jh hown
   have HBE := jh hbel
   clear hown hbel hn
   go_wp2_with fail
   go_ret
   exact ⟨_, rfl, HO.out, HBE.out⟩
theorem pint_none (bv : Value) (bl : List UInt8) (a : Option Addr) (cap : Nat) (w : World) (hb : Row1 w bv (bl.map bval)) (hsz : bl.length ≤ 1099511627776) (hm : cap ≤ maxLen) :
  Calls Tryz.prog 57 #[bv, .slice a 0 cap] w fun e w' => ∃ v, e = .returned v ∧ w'.ownsRow w.heap.size 5 1 v bl.length (bl.map bval) ∧ Below w.heap.size w w' := by
 unfold maxLen at hm
 have HR := jh (room_any 0 w hb (by omega))
 clear hb
 go_enter Tryz.func57, Tryz.ntmps57
 go_wp2_with fail
 refine HR.out.mono ?_
 rintro e w1 ⟨v1, rfl, hown1, hbel1⟩
 have HO1 := jh hown1
 have HB1 := jh hbel1
 clear hown1 hbel1
 go_wp2_with fail
 refine wp_loop_rounds 1 ?_
 rw [rounds_succ]
 go_wp2_with fail
 go_ret
 exact ⟨_, rfl, HO1.out, HB1.out⟩
theorem pint_own {bv lv : Value} {bl : List UInt8} {ns : List Int} (w : World) (hb : Row1 w bv (bl.map bval)) (hl : Row1 w lv (ns.map (.int .i64))) (hsz : bl.length + 8 * ns.length ≤ 1099511627776) :
  Calls Tryz.prog 57 #[bv, lv] w fun e w' => ∃ v, e = .returned v ∧ w'.ownsRow w.heap.size 5 1 v (bl.length + 8 * ns.length) ((bl ++ be8s ns).map bval) ∧ Below w.heap.size w w' := by
 obtain ⟨a, cap, rfl, h1, h2, h3, h4⟩ := hl
 rw [q101] at h1 ⊢
 by_cases h0 : ns = []
 ·subst h0
  have := pint_none bv bl a cap w hb (by omega) h2
  simpa [be8s] using this
 ·obtain ⟨b, off, rfl, hbw, hc⟩ := h4 (by simpa using h0)
  exact pint_loop bv bl b off cap ns.length ns w hb rfl (List.length_pos_iff.2 h0) h1 h2 hbw (pck_row_nums hc) hsz
section
section
variable {P : Program}
theorem run_bytes_row (w : World) (src dst e : TypeId) (l : List UInt8) {u : TypeDesc} (hs : P.underlying src = some u) (hd : P.underlying dst = some (.slice e)) (he : P.underlying e = some (.int .u8)) (hl : l.length ≤ maxLen) :
  ∃ a c w', (convert src dst (.string ⟨l.toArray⟩)).run P w = .ok (.slice a l.length c) w' ∧ Row1 w' (.slice a l.length c) (l.map bval) ∧ Ext w w' := by
 have hsz : (⟨l.toArray⟩ : ByteArray).size = l.length := by simp [ByteArray.size]
 refine ⟨some ⟨w.heap.size, 0, none⟩, grownCap w l.length 0 e, Lib.bytesWorld w e ⟨l.toArray⟩, ?_, ?_, ?_⟩
 ·rw [Lib.run_convert_string_bytes w src dst e ⟨l.toArray⟩ hs hd he, hsz]
 ·have hll : (l.map bval).length = l.length := q101 _
  refine ⟨_, _, by rw [hll], ?_, grownCap_le_maxLen _ _ _ _ hl, (fun e => by cases e), fun _ => ⟨w.heap.size, 0, rfl, ?_, fun i hi => ?_⟩⟩
  ·rw [hll]
   exact grownCap_ge _ _ _ _
  ·rw [Lib.bytesWorld_size]
   omega
  ·rw [hll] at hi
   rw [q125, Lib.bytesWorld_cell w e ⟨l.toArray⟩ i (by rw [hsz]; exact hi), (by simp [bval, List.getD, hi] : (l.map bval)[i]? = some (.int .u8 ((l.getD i 0).toNat : Int)))]
 ·have h : ∀ j, j < w.heap.size → (Lib.bytesWorld w e ⟨l.toArray⟩).heap[j]? = w.heap[j]? := fun j hj => Lib.bytesWorld_at_old w e _ j hj
  exact ⟨rfl, rfl, rfl, by rw [Lib.bytesWorld_size]; omega, fun k hk => h k hk⟩
end
end
def CMG (w : World) : Prop := GlobRQ w ∧ GlobT w ∧ GlobC w
theorem CMG.ext {w w' : World} (h : CMG w) (hb : Ext w w') : CMG w' := ⟨h.1.ext hb, h.2.1.ext hb, h.2.2.ext hb⟩
theorem crt_zero_sig (w : World) : (zeroValue 26).run Tryz.prog w = .ok (.agg (z64.map bval).toArray) w := by kernel_rfl
theorem cid_any (n : Int) (w : World) : Calls Tryz.prog 26 #[.int .i64 n] w fun e w' => e = .returned (.bool (smallB n)) ∧ w = w' := by
 by_cases h1 : 0 ≤ n
 ·by_cases h2 : n ≤ 2147483647
  ·have HB := jh (smallB_of h1 h2)
   go_enter Tryz.func26, Tryz.ntmps26
   go_wp2_with fail
   go_ret
   exact ⟨by rw [HB.out]; rfl, rfl⟩
  ·have HB := jh (smallB_not (n := n) (fun h => h2 h.2))
   go_enter Tryz.func26, Tryz.ntmps26
   go_wp2_with fail
   go_ret
   exact ⟨by rw [HB.out]; rfl, rfl⟩
 ·have HB := jh (smallB_not (n := n) (fun h => h1 h.1))
  go_enter Tryz.func26, Tryz.ntmps26
  go_wp2_with fail
  go_ret
  exact ⟨by rw [HB.out]; rfl, rfl⟩
theorem cid_b (n : Int) (r : Bool) (w : World) (hr : smallB n = r) : Calls Tryz.prog 26 #[.int .i64 n] w fun e w' => e = .returned (.bool r) ∧ Below w.heap.size w w' := by
 subst hr
 exact (cid_any n w).mono fun e w' h => ⟨h.1, h.2 ▸ Below.refl _ _⟩
theorem cmarked_any (mk : List UInt8) (n : Int) (w : World) (hm : mk.length = 4) : Calls Tryz.prog 29 #[.string ⟨mk.toArray⟩, .int .i64 n] w fun e w' => ∃ x, e = .returned x ∧ w'.ownsRow w.heap.size 5 1 x 12 ((mk ++ be8s [n]).map bval) ∧ Below w.heap.size w w' := by
 obtain ⟨a1, c1, m1, hcv1, r1, e1⟩ := run_bytes_row (P := Tryz.prog) w 9 46 5 mk Tryz.underlying9 q107 q111 (by rw [hm]; unfold maxLen; omega)
 have e2 := Ext.alloc m1 (.cells #[.int .i64 n] 3)
 have r2 : Row1 (m1.alloc (.cells #[.int .i64 n] 3)) (.slice (some ⟨m1.heap.size, 0, none⟩) 1 1) (([n] : List Int).map (.int .i64)) := Row1.made m1 #[.int .i64 n] 3 _ 1 _ rfl rfl rfl (by unfold maxLen; omega)
 have HC := jh (pint_own (bl := mk) (ns := [n]) _ (r1.below e2) r2 (by rw [hm]; simp))
 have HE := jh ((show Ext w m1 from e1).trans e2)
 have HM := jh hm
 rw [hm] at hcv1 HC
 clear r1 e1 e2 r2 hm
 go_enter Tryz.func29, Tryz.ntmps29
 go_wp2_with fail
 refine HC.out.mono ?_
 rintro e w1 ⟨x, rfl, ho, hb⟩
 have HO := jh (own_mono ho HE.out.size)
 have HE := xt HE hb
 clear ho hb HC
 go_wp2_with fail
 go_ret
 exact ⟨x, rfl, own_eq HO.out (by rfl) rfl, HE.out⟩
theorem cSign_any (root key : List UInt8) (sid : Int) (w : World) (hr : root.length = 32) (hk : key.length = 32) (hG : CMG w) :
  Calls Tryz.prog 11 #[.agg (root.map bval).toArray, .int .i64 sid, .agg (key.map bval).toArray] w fun e w' => e = .returned (.tuple #[.agg (certC (sgnI sid key) (sgnK sid key) (sgnG root sid key)).toArray, .int .i64 (sgnE sid key)]) ∧ Below w.heap.size w w' := by
 obtain ⟨i0, hi, hz0, hz1, hz2⟩ := info_parts Tryz.info5
 obtain ⟨iq, hq0, hq1, hq2⟩ := info_two (P := Tryz.prog) (t := 46) (z := .slice none 0 0) (n := 1) (by kernel_rfl)
 have HI0 := jh hi
 have HZ0 := jh hz0
 have HZ1 := jh hz1
 have HZ2 := jh hz2
 have HQ0 := jh hq0
 have HQ1 := jh hq1
 have HQ2 := jh hq2
 clear hi hz0 hz1 hz2 hq0 hq1 hq2
 have HRL := jh hr
 have HKL := jh hk
 have HIR := jh (zac hr)
 have HIK := jh (zac hk)
 have HG := jh hG
 have HB := jh (boxes3 w (root.map bval) (key.map bval) (certC 0 z32 z64) 23 23 28)
 have HZC := jh (zbz (id := 0) zde zbv)
 have HZS := jh (zdv (id := 0) zde zbv)
 clear hr hk hG
 go_enter Tryz.func11, Tryz.ntmps11
 go_upto_region 1 with (fail)
 obtain ⟨H1, H2, H3, HE⟩ := HB.out
 change Code.wp _ _ _ _ (((w.alloc (.cells (root.map bval).toArray 23)).alloc (.cells (key.map bval).toArray 23)).alloc (.cells (certC 0 z32 z64).toArray 28))
 generalize ((w.alloc (.cells (root.map bval).toArray 23)).alloc (.cells (key.map bval).toArray 23)).alloc (.cells (certC 0 z32 z64).toArray 28) = wa at *
 have HE : Hid (Ext w wa) := jh HE
 obtain ⟨C, hC⟩ : ∃ C, C = w.heap.size + 1 + 1 := ⟨_, rfl⟩
 have HLC : Hid (w.heap.size ≤ C) := jh (by omega)
 rw [← hC] at H3 ⊢
 obtain ⟨B, hB⟩ : ∃ B, B = w.heap.size + 1 := ⟨_, rfl⟩
 rw [← hB] at H2 ⊢
 obtain ⟨A, hA⟩ : ∃ A, A = w.heap.size := ⟨_, rfl⟩
 have HO : Hid (A < B ∧ B < C) := jh (by omega)
 rw [← hA] at H1 ⊢
 have H1 := jh H1
 have H2 := jh H2
 have HC0 := jh H3
 clear hA hB hC HB H3
 go_wp2_with fail
 refine (cid_any sid wa).mono ?_
 rintro e w' ⟨rfl, rfl⟩
 cases hsm : smallB sid with
 | false =>
  have HQ := jh (sgn_arg (key := key) hsm root)
  clear hsm
  go_wp2_with (first | (refine zbf rfl _ _ rfl _ rfl _ (build_cert0 _) ?_) | (refine ssb C (certC 0 z32 z64) HC0.out rfl HZS.out (zek _ _ _) ?_; intro w9 hb9 hg9))
  refine bodyPost_ret (zai rfl _ C _ _ _ rfl hb9 q131 rfl HZS.out) rfl ?_
  exact ⟨by rw [HQ.out.1, HQ.out.2.1, HQ.out.2.2.1, HQ.out.2.2.2]; rfl, zab HE.out hg9 HLC.out⟩
 | true =>
  have HSB := jh hsm
  clear hsm
  have HMY := jh (CMay_num key wa HKL.out (HG.out.ext HE.out).2.2)
  obtain ⟨my, hmy⟩ : ∃ my, my = mayB key := ⟨_, rfl⟩
  rw [← hmy] at HMY
  have HMB := jh hmy
  clear hmy
  go_wp2_with (refine slb B H2.out q100 HIK.out ?_)
  refine HMY.out.mono ?_
  rintro e w3 ⟨rfl, hb⟩
  have H1 := xb H1 hb
  have H2 := xb H2 hb
  have HC0 := xb HC0 hb
  have HE := xt HE hb
  clear hb HMY
  cases my with
  | false =>
   have HQ := jh (sgn_key (key := key) HSB.out HMB.out.symm root)
   go_wp2_with (first | (refine zbf rfl _ _ rfl _ rfl _ (build_cert0 _) ?_) | (refine ssb C (certC 0 z32 z64) HC0.out rfl HZS.out (zek _ _ _) ?_; intro w9 hb9 hg9))
   refine bodyPost_ret (zai rfl _ C _ _ _ rfl hb9 q131 rfl HZS.out) rfl ?_
   exact ⟨by rw [HQ.out.1, HQ.out.2.1, HQ.out.2.2.1, HQ.out.2.2.2]; rfl, zab HE.out hg9 HLC.out⟩
  | true =>
   have HQ := jh (sgn_yes HSB.out HMB.out.symm root)
   obtain ⟨g, hg⟩ : ∃ g, g = edSign root (certT sid key) := ⟨_, rfl⟩
   have HGE : Hid (certG root sid key = g) := jh hg.symm
   have HGL : Hid (g.length = 64) := jh (by rw [hg]; exact zdn _ _)
   have HIS := jh (zcg HGL.out)
   have HSG := jh (fun (x : Value) (wx : World) (hx : Ext w3 wx) (hr : RowB wx x [([80, 67, 67, 84] : List UInt8) ++ be8s [sid], key]) => by
    have hGw := HG.out.ext (HE.out.trans hx)
    have hf : [([80, 67, 67, 84] : List UInt8) ++ be8s [sid], key].flatten = certT sid key := by simp [certT]
    have h := CSign_num root x _ wx HRL.out hr (by rw [hf, zez, HKL.out]; decide) (by simp) hGw.1 hGw.2.1 hGw.2.2
    rw [hf, ← hg] at h
    exact h)
   clear hg
   go_upto_region 5 with (fail)
   have B0 : Ext w3 w3.drew := Ext.drew _
   refine wp_region_held_drew (S := fun w' => Ext w3 w') (by kernel_rfl) B0 (fun hW => ?_)
   refine tke 0 (.agg ((root).map bval).toArray) rfl (sld A 0 (fun w h => zah H1.out h) q100 HIR.out) hW ?_
   simp only [nm]
   refine tke 1 (.int .i64 sid) rfl (zbm _ (.int .i64 sid) (by rfl) rfl rfl) hW ?_
   simp only [nm]
   refine tke 3 (.slice (some ⟨B, 0, none⟩) 32 32) rfl (zdy _ _ _ _ (.pointer (some ⟨B, 0, none⟩)) (.slice (some ⟨B, 0, none⟩) 32 32) none none (by rfl) rfl rfl rfl rfl (fun w => zej q100 q115 (by omega) _ w)) hW ?_
   simp only [nm]
   refine Fl.go (f := 6) (d := 8) (zs := (z64.map bval)) (T := 26) (B := (w3).heap.size) ?_ hW
   clear hW
   refine Fl.step 2 rfl rfl rfl rfl rfl crt_zero_sig (fun _ _ h1 h2 => h1.trans h2) (fun _ h => h.size) (fun z1 u K hz1 hSz hK => ?_)
   have NZ1 : Ext w3 z1 := B0.trans hz1
   clear hSz
   go_simp
   refine (cmarked_any ([80, 67, 67, 84] : List UInt8) sid z1 rfl).mono ?_
   rintro e m1 ⟨x1, rfl, o1, b1⟩
   have r1 : Row1 m1 x1 ((([80, 67, 67, 84] : List UInt8) ++ be8s [sid]).map bval) := Row1.of_own o1
   obtain ⟨a1, c1, hx1, _⟩ := id r1
   rw [show ((([80, 67, 67, 84] : List UInt8) ++ be8s [sid]).map bval).length = 12 from rfl] at hx1
   subst hx1
   have N1 : Ext w3 m1 := NZ1.trans b1
   refine hK.out (.slice a1 12 c1) _ b1 N1 ?_
   clear hK K u
   try simp only [nm]
   refine Fl.step 4 rfl rfl rfl rfl rfl crt_zero_sig (fun _ _ h1 h2 => h1.trans h2) (fun _ h => h.size) (fun z2 u K hz2 hSz hK => ?_)
   have r1 := r1.below hz2
   have NZ2 : Ext w3 z2 := N1.trans hz2
   clear hSz
   refine zbn (by rfl) ?_
   refine zbk (some 21) _ _ _ _ rfl rfl #[.slice a1 12 c1, .slice (some ⟨B, 0, none⟩) 32 32] iq (.slice none 0 0) q141 HQ0.out HQ1.out (by rw [HQ2.out]; decide) (by rw [HQ2.out]; decide) (by rw [HQ2.out]; kernel_rfl) ?_
   obtain ⟨m2, hm2⟩ : ∃ wNew, wNew = World.alloc z2 (.cells #[.slice a1 12 c1, .slice (some ⟨B, 0, none⟩) 32 32] 46) := ⟨_, rfl⟩
   rw [← hm2]
   have b2 : Ext z2 m2 := by rw [hm2]; exact Ext.alloc _ _
   obtain ⟨g2, hg2⟩ : ∃ gNew, gNew = (z2).heap.size := ⟨_, rfl⟩
   rw [← hg2]
   have r1 := r1.below b2
   have r2 : Row1 m2 (.slice (some ⟨g2, 0, none⟩) 2 2) [.slice a1 12 c1, .slice (some ⟨B, 0, none⟩) 32 32] := by rw [hm2, hg2]; exact Row1.made _ _ _ _ _ _ rfl rfl rfl (by unfold maxLen; omega)
   clear hm2 hg2
   have N2 : Ext w3 m2 := NZ2.trans b2
   refine hK.out (.slice (some ⟨g2, 0, none⟩) 2 2) _ b2 N2 ?_
   clear hK K u
   try simp only [nm]
   refine Fl.step 5 rfl rfl rfl rfl rfl crt_zero_sig (fun _ _ h1 h2 => h1.trans h2) (fun _ h => h.size) (fun z3 u K hz3 hSz hK => ?_)
   have r1 := r1.below hz3
   have r2 := r2.below hz3
   have NZ3 : Ext w3 z3 := N2.trans hz3
   clear hSz
   go_simp
   refine (HSG.out _ z3 NZ3 (rowB2 r2 r1 ((zdi (n := 32) H2.out (by rw [q101]; exact HKL.out) (by unfold maxLen; omega)).below NZ3))).mono ?_
   rintro e m3 ⟨rfl, b3⟩
   have r1 := r1.below b3
   have r2 := r2.below b3
   have N3 : Ext w3 m3 := NZ3.trans b3
   refine hK.out (.agg ((g).map bval).toArray) _ b3 N3 ?_
   clear hK K u
   try simp only [nm]
   refine Fl.last rfl rfl rfl rfl crt_zero_sig (fun _ _ h1 h2 => h1.trans h2) (fun _ h => h.size) (fun m4 g4 b4 hW l4 z4 => ?_)
   try simp only [nm]
   have r1 := r1.below b4
   have r2 := r2.below b4
   have N4 : Ext w3 m4 := N3.trans b4
   refine rdy 7 rfl fun K hK => ?_
   refine zbn (by rfl) ?_
   refine zak _ _ _ rfl g4 ((g).map bval) rfl rfl _ _ z4 (by rw [q101, HGL.out]; rfl) (zcg (HGL.out)) (zaf _) ?_
   intro m5 hb5 hg5
   have N5 : Ext w3 m5 := zab N4 hg5 l4
   refine hK.out _ _ N5 (fun hW => ?_)
   clear hK K
   try simp only [nm]
   refine dne ?_
   have HS9 := jh hb5
   have HN9 := jh N5
   have HB9 := xb H2 N5
   have HC9 := xb HC0 N5
   generalize g4 = S9 at HS9 ⊢
   generalize m5 = w9 at HS9 HN9 HB9 HC9 ⊢
   go_wp2_with (first | (refine slb B HB9.out q100 HIK.out ?_) | (refine slb S9 HS9.out q119 HIS.out ?_) | (refine zbf rfl 28 #[(0, .tmp 23), (1, .tmp 24), (2, .tmp 25)] rfl #[(0, .int .i64 sid), (1, .agg (key.map bval).toArray), (2, .agg (g.map bval).toArray)] (by simp [Act.eval, Act.put]) _ (build_cert sid HKL.out HGL.out _) ?_) | (refine ssb C (certC sid key g) HC9.out (by rw [zbz HKL.out HGL.out, zbz zde zbv]) (zdv HKL.out HGL.out) (zek _ _ _) ?_; intro w10 hb10 hg10))
   refine bodyPost_ret (zai rfl _ C _ _ _ rfl hb10 q131 rfl (zdv HKL.out HGL.out)) rfl ?_
   exact ⟨by rw [HQ.out.1, HQ.out.2.1, HQ.out.2.2.1, HQ.out.2.2.2, HGE.out]; rfl, zab (HE.out.trans HN9.out) hg10 HLC.out⟩
theorem cStop_any (root : List UInt8) (sid : Int) (w : World) (hr : root.length = 32) (hG : CMG w) :
  Calls Tryz.prog 19 #[.agg (root.map bval).toArray, .int .i64 sid] w fun e w' => e = .returned (.tuple #[.agg (stopC (stpI sid) (stpG root sid)).toArray, .int .i64 (stpE sid)]) ∧ Below w.heap.size w w' := by
 obtain ⟨i0, hi, hz0, hz1, hz2⟩ := info_parts Tryz.info5
 obtain ⟨iq, hq0, hq1, hq2⟩ := info_two (P := Tryz.prog) (t := 46) (z := .slice none 0 0) (n := 1) (by kernel_rfl)
 have HI0 := jh hi
 have HZ0 := jh hz0
 have HZ1 := jh hz1
 have HZ2 := jh hz2
 have HQ0 := jh hq0
 have HQ1 := jh hq1
 have HQ2 := jh hq2
 clear hi hz0 hz1 hz2 hq0 hq1 hq2
 have HRL := jh hr
 have HIR := jh (zac hr)
 have HG := jh hG
 have HB := jh (boxes2 w (root.map bval) (stopC 0 z64) 23 39)
 have HZS := jh (zdp (id := 0) zbv)
 clear hr hG
 go_enter Tryz.func19, Tryz.ntmps19
 go_upto_region 1 with (fail)
 obtain ⟨H1, H3, HE⟩ := HB.out
 change Code.wp _ _ _ _ ((w.alloc (.cells (root.map bval).toArray 23)).alloc (.cells (stopC 0 z64).toArray 39))
 generalize (w.alloc (.cells (root.map bval).toArray 23)).alloc (.cells (stopC 0 z64).toArray 39) = wa at *
 have HE : Hid (Ext w wa) := jh HE
 obtain ⟨C, hC⟩ : ∃ C, C = w.heap.size + 1 := ⟨_, rfl⟩
 have HLC : Hid (w.heap.size ≤ C) := jh (by omega)
 rw [← hC] at H3 ⊢
 obtain ⟨A, hA⟩ : ∃ A, A = w.heap.size := ⟨_, rfl⟩
 have HO : Hid (A < C) := jh (by omega)
 rw [← hA] at H1 ⊢
 have H1 := jh H1
 have HC0 := jh H3
 clear hA hC HB H3
 go_wp2_with fail
 refine (cid_any sid wa).mono ?_
 rintro e w' ⟨rfl, rfl⟩
 cases hsm : smallB sid with
 | false =>
  have HQ : Hid (stpE sid = 1 ∧ stpI sid = 0 ∧ stpG root sid = z64) := jh (by unfold stpE stpI stpG; rw [hsm]; exact ⟨rfl, rfl, rfl⟩)
  clear hsm
  go_wp2_with (first | (refine zbf rfl _ _ rfl _ rfl _ (build_stop0 _) ?_) | (refine ssb C (stopC 0 z64) HC0.out rfl HZS.out (zfc _ _) ?_; intro w9 hb9 hg9))
  refine bodyPost_ret (zai rfl _ C _ _ _ rfl hb9 q144 rfl HZS.out) rfl ?_
  exact ⟨by rw [HQ.out.1, HQ.out.2.1, HQ.out.2.2]; rfl, zab HE.out hg9 HLC.out⟩
 | true =>
  have HQ : Hid (stpE sid = 0 ∧ stpI sid = sid ∧ stpG root sid = stopG root sid) := jh (by unfold stpE stpI stpG; rw [hsm]; exact ⟨rfl, rfl, rfl⟩)
  clear hsm
  obtain ⟨g, hg⟩ : ∃ g, g = edSign root (stopT sid) := ⟨_, rfl⟩
  have HGE : Hid (stopG root sid = g) := jh hg.symm
  have HGL : Hid (g.length = 64) := jh (by rw [hg]; exact zdn _ _)
  have HSG := jh (fun (x : Value) (wx : World) (hx : Ext wa wx) (hr : RowB wx x [([80, 67, 83, 84] : List UInt8) ++ be8s [sid]]) => by
   have hGw := HG.out.ext (HE.out.trans hx)
   have hf : [([80, 67, 83, 84] : List UInt8) ++ be8s [sid]].flatten = stopT sid := by simp [stopT]
   have h := CSign_num root x _ wx HRL.out hr (by rw [hf, zev]; decide) (by simp) hGw.1 hGw.2.1 hGw.2.2
   rw [hf, ← hg] at h
   exact h)
  clear hg
  go_upto_region 3 with (fail)
  have B0 : Ext wa wa.drew := Ext.drew _
  refine wp_region_held_drew (S := fun w' => Far (C) wa w') (by kernel_rfl) (zbl B0) (fun hW => ?_)
  refine tke 0 (.int .i64 sid) rfl (zbm _ (.int .i64 sid) (by rfl) rfl rfl) hW ?_
  simp only [nm]
  refine tke 1 (.agg ((root).map bval).toArray) rfl (sld A 0 (fun w h => zba H1.out (by have := HO.out; omega) h) q100 HIR.out) hW ?_
  simp only [nm]
  refine tke 2 (.int .i64 sid) rfl (zbm _ (.int .i64 sid) (by rfl) rfl rfl) hW ?_
  simp only [nm]
  refine rdy 3 rfl fun K hK => ?_
  go_simp
  refine (cmarked_any ([80, 67, 83, 84] : List UInt8) sid wa.drew rfl).mono ?_
  rintro e m1 ⟨x1, rfl, o1, b1⟩
  have r1 : Row1 m1 x1 ((([80, 67, 83, 84] : List UInt8) ++ be8s [sid]).map bval) := Row1.of_own o1
  obtain ⟨a1, c1, hx1, _⟩ := id r1
  rw [show ((([80, 67, 83, 84] : List UInt8) ++ be8s [sid]).map bval).length = 12 from rfl] at hx1
  subst hx1
  have N1 : Ext wa m1 := B0.trans b1
  refine hK.out _ _ (zbl N1) (fun hW => ?_)
  clear hK K
  try simp only [nm]
  refine rdy 4 rfl fun K hK => ?_
  refine zbn (by rfl) ?_
  refine zbk (some 14) _ _ _ _ rfl rfl #[.slice a1 12 c1] iq (.slice none 0 0) q141 HQ0.out HQ1.out (by rw [HQ2.out]; decide) (by rw [HQ2.out]; decide) (by rw [HQ2.out]; kernel_rfl) ?_
  obtain ⟨m2, hm2⟩ : ∃ wNew, wNew = World.alloc m1 (.cells #[.slice a1 12 c1] 46) := ⟨_, rfl⟩
  rw [← hm2]
  have b2 : Ext m1 m2 := by rw [hm2]; exact Ext.alloc _ _
  obtain ⟨g2, hg2⟩ : ∃ gNew, gNew = (m1).heap.size := ⟨_, rfl⟩
  rw [← hg2]
  have r1 := r1.below b2
  have r2 : Row1 m2 (.slice (some ⟨g2, 0, none⟩) 1 1) [.slice a1 12 c1] := by rw [hm2, hg2]; exact Row1.made _ _ _ _ _ _ rfl rfl rfl (by unfold maxLen; omega)
  clear hm2 hg2
  have N2 : Ext wa m2 := N1.trans b2
  refine hK.out _ _ (zbl N2) (fun hW => ?_)
  clear hK K
  try simp only [nm]
  refine rdy 5 rfl fun K hK => ?_
  go_simp
  refine (HSG.out _ m2 N2 (rowB1 r2 r1)).mono ?_
  rintro e m3 ⟨rfl, b3⟩
  have r1 := r1.below b3
  have r2 := r2.below b3
  have N3 : Ext wa m3 := N2.trans b3
  refine hK.out _ _ (zbl N3) (fun hW => ?_)
  clear hK K
  try simp only [nm]
  refine tke 6 (.agg (stopC sid g).toArray) rfl (yi_build _ _ _ _ (build_stop sid HGL.out) (by rfl) rfl (by simp [Act.eval])) hW ?_
  simp only [nm]
  refine rdy 7 rfl fun K hK => ?_
  refine zbn (by rfl) ?_
  refine zak _ _ _ rfl C (stopC sid g) rfl rfl _ _ (zad HC0.out N3) (by rw [zco HGL.out, zco zbv]) (zdp HGL.out) (zfc _ _) ?_
  intro m4 hb4 hg4
  refine hK.out _ _ (zcn N3 hg4) (fun hW => ?_)
  clear hK K
  try simp only [nm]
  refine rdy 8 rfl fun K hK => ?_
  go_simp
  refine hK.out _ _ (zcn N3 hg4) (fun hW => ?_)
  clear hK K
  try simp only [nm]
  refine dne ?_
  have hfin := hb4
  have hNN := zab (HE.out.trans N3) hg4 HLC.out
  generalize m4 = w11 at hfin hNN ⊢
  go_wp2_with fail
  refine bodyPost_ret (zai rfl _ C _ _ _ rfl hfin q144 rfl (zdp HGL.out)) rfl ?_
  exact ⟨by rw [HQ.out.1, HQ.out.2.1, HQ.out.2.2, HGE.out]; rfl, hNN⟩
theorem cCheck_any (pub key sig : List UInt8) (sid : Int) (w : World) (hp : pub.length = 32) (hk : key.length = 32) (hs : sig.length = 64) (hG : CMG w) :
  Calls Tryz.prog 14 #[.agg (pub.map bval).toArray, .agg (certC sid key sig).toArray] w fun e w' => e = .returned (.bool (certV pub sid key sig)) ∧ Below w.heap.size w w' := by
 obtain ⟨i0, hi, hz0, hz1, hz2⟩ := info_parts Tryz.info5
 obtain ⟨iq, hq0, hq1, hq2⟩ := info_two (P := Tryz.prog) (t := 46) (z := .slice none 0 0) (n := 1) (by kernel_rfl)
 have HI0 := jh hi
 have HZ0 := jh hz0
 have HZ1 := jh hz1
 have HZ2 := jh hz2
 have HQ0 := jh hq0
 have HQ1 := jh hq1
 have HQ2 := jh hq2
 clear hi hz0 hz1 hz2 hq0 hq1 hq2
 have HRL := jh hp
 have HKL := jh hk
 have HSL := jh hs
 have HIR := jh (zac hp)
 have HG := jh hG
 have HB := jh (boxes2 w (pub.map bval) (certC sid key sig) 23 28)
 clear hp hk hs hG
 go_enter Tryz.func14, Tryz.ntmps14
 go_upto_region 1 with (fail)
 obtain ⟨H1, H2, HE⟩ := HB.out
 change Code.wp _ _ _ _ ((w.alloc (.cells (pub.map bval).toArray 23)).alloc (.cells (certC sid key sig).toArray 28))
 generalize (w.alloc (.cells (pub.map bval).toArray 23)).alloc (.cells (certC sid key sig).toArray 28) = wa at *
 have HE : Hid (Ext w wa) := jh HE
 obtain ⟨B, hB⟩ : ∃ B, B = w.heap.size + 1 := ⟨_, rfl⟩
 rw [← hB] at H2 ⊢
 obtain ⟨A, hA⟩ : ∃ A, A = w.heap.size := ⟨_, rfl⟩
 rw [← hA] at H1 ⊢
 have H1 := jh H1
 obtain ⟨hp1, hp2, hp3⟩ := cert_parts H2 HKL.out
 have HP1 := jh hp1
 have HRK := jh (row_rng (n := 32) hp2 H2.lt (by rw [q101, HKL.out]) (by unfold maxLen; omega))
 have HP3 := jh hp3
 clear hA hB HB H2 hp1 hp2 hp3
 cases hsm : smallB sid with
 | false =>
  have HSB := jh hsm
  have HQ : Hid (certV pub sid key sig = false) := jh (by unfold certV; rw [hsm]; rfl)
  clear hsm
  have B0 : Ext wa wa.drew := Ext.drew _
  refine wp_region_held_drew (S := fun w' => Ext wa w') (by kernel_rfl) B0 (fun hW => ?_)
  refine tke 0 (.pointer (some ⟨B, 0, none⟩)) rfl (zbj (.pointer (some ⟨B, 0, none⟩)) (by rfl) (fun w _ => by go_simp)) hW ?_
  simp only [nm]
  refine tke 1 (.int .i64 sid) rfl (zbj (.int .i64 sid) (by rfl) (fun w h => by have hc := (Below.cell h (q138 wa _ HP1.out)).trans HP1.out; go_simp)) hW ?_
  simp only [nm]
  refine rdy 2 rfl fun K hK => ?_
  go_simp
  refine (cid_b sid false wa.drew HSB.out).mono ?_
  rintro e m1 ⟨rfl, b1⟩
  have N1 : Ext wa m1 := B0.trans b1
  refine hK.out _ _ N1 (fun hW => ?_)
  clear hK K
  try simp only [nm]
  refine tke 3 (.bool false) rfl (zbm _ (.bool false) (by rfl) rfl rfl) hW ?_
  simp only [nm]
  refine tke 4 undef rfl (zbt (by rfl)) hW ?_
  simp only [nm]
  refine tke 5 undef rfl (zbt (by rfl)) hW ?_
  simp only [nm]
  refine tke 6 undef rfl (zbt (by rfl)) hW ?_
  simp only [nm]
  refine tke 7 undef rfl (zbt (by rfl)) hW ?_
  simp only [nm]
  refine tke 8 undef rfl (zbt (by rfl)) hW ?_
  simp only [nm]
  refine tke 9 undef rfl (zbt (by rfl)) hW ?_
  simp only [nm]
  refine tke 10 undef rfl (zbt (by rfl)) hW ?_
  simp only [nm]
  refine tke 11 undef rfl (zbt (by rfl)) hW ?_
  simp only [nm]
  refine tke 12 undef rfl (zbt (by rfl)) hW ?_
  simp only [nm]
  refine tke 13 undef rfl (zbt (by rfl)) hW ?_
  simp only [nm]
  refine tke 14 (.bool false) rfl (zct _ _ _ false _ (by rfl) rfl rfl rfl) hW ?_
  simp only [nm]
  refine rdy 15 rfl fun K hK => ?_
  go_simp
  refine hK.out _ _ N1 (fun hW => ?_)
  clear hK K
  try simp only [nm]
  refine dne ?_
  have HN := xt HE N1
  go_wp2_with fail
  go_ret
  exact ⟨by rw [HQ.out]; rfl, HN.out⟩
 | true =>
  have HSB := jh hsm
  obtain ⟨q, hq⟩ : ∃ q, q = verB pub sig (certT sid key) := ⟨_, rfl⟩
  have HQ : Hid (certV pub sid key sig = q) := jh (by unfold certV; rw [hsm, hq]; rfl)
  have HVF := jh (fun (x : Value) (wx : World) (hx : Ext wa wx) (hr : RowB wx x [([80, 67, 67, 84] : List UInt8) ++ be8s [sid], key]) => by
   have hGw := HG.out.ext (HE.out.trans hx)
   have hf : ([([80, 67, 67, 84] : List UInt8) ++ be8s [sid], key]).flatten = certT sid key := by simp [certT]
   have h := CVer_num pub sig x _ wx HRL.out HSL.out hr (by rw [hf, zez, HKL.out]; decide) (by simp) hGw.1 hGw.2.1 hGw.2.2
   rw [hf, ← hq] at h
   exact h)
  clear hq hsm
  have B0 : Ext wa wa.drew := Ext.drew _
  refine wp_region_held_drew (S := fun w' => Ext wa w') (by kernel_rfl) B0 (fun hW => ?_)
  refine tke 0 (.pointer (some ⟨B, 0, none⟩)) rfl (zbj (.pointer (some ⟨B, 0, none⟩)) (by rfl) (fun w _ => by go_simp)) hW ?_
  simp only [nm]
  refine tke 1 (.int .i64 sid) rfl (zbj (.int .i64 sid) (by rfl) (fun w h => by have hc := (Below.cell h (q138 wa _ HP1.out)).trans HP1.out; go_simp)) hW ?_
  simp only [nm]
  refine rdy 2 rfl fun K hK => ?_
  go_simp
  refine (cid_b sid true wa.drew HSB.out).mono ?_
  rintro e m1 ⟨rfl, b1⟩
  have N1 : Ext wa m1 := B0.trans b1
  refine hK.out _ _ N1 (fun hW => ?_)
  clear hK K
  try simp only [nm]
  refine tke 3 (.bool true) rfl (zbm _ (.bool true) (by rfl) rfl rfl) hW ?_
  simp only [nm]
  refine tke 4 (.agg ((pub).map bval).toArray) rfl (sld A 0 (fun w h => zah H1.out h) q100 HIR.out) hW ?_
  simp only [nm]
  refine tke 5 (.pointer (some ⟨B, 33, none⟩)) rfl (zbj (.pointer (some ⟨B, 33, none⟩)) (by rfl) (fun w _ => by go_simp)) hW ?_
  simp only [nm]
  refine tke 6 (.agg ((sig).map bval).toArray) rfl (sld B 33 (fun w h => rng_ext HP3.out h) q119 (zcg HSL.out)) hW ?_
  simp only [nm]
  refine tke 7 (.pointer (some ⟨B, 0, none⟩)) rfl (zbj (.pointer (some ⟨B, 0, none⟩)) (by rfl) (fun w _ => by go_simp)) hW ?_
  simp only [nm]
  refine tke 8 (.int .i64 sid) rfl (zbj (.int .i64 sid) (by rfl) (fun w h => by have hc := (Below.cell h (q138 wa _ HP1.out)).trans HP1.out; go_simp)) hW ?_
  simp only [nm]
  refine tke 10 (.pointer (some ⟨B, 1, none⟩)) rfl (zbj (.pointer (some ⟨B, 1, none⟩)) (by rfl) (fun w _ => by go_simp)) hW ?_
  simp only [nm]
  refine tke 11 (.slice (some ⟨B, 1, none⟩) 32 32) rfl (zdy _ _ _ _ (.pointer (some ⟨B, 1, none⟩)) (.slice (some ⟨B, 1, none⟩) 32 32) none none (by rfl) rfl rfl rfl rfl (fun w => cut_part q100 q115 (by omega) _ _ w)) hW ?_
  simp only [nm]
  refine rdy 9 rfl fun K hK => ?_
  go_simp
  refine (cmarked_any ([80, 67, 67, 84] : List UInt8) sid m1 rfl).mono ?_
  rintro e m2 ⟨x2, rfl, o2, b2⟩
  have r2 : Row1 m2 x2 ((([80, 67, 67, 84] : List UInt8) ++ be8s [sid]).map bval) := Row1.of_own o2
  obtain ⟨a2, c2, hx2, _⟩ := id r2
  rw [show ((([80, 67, 67, 84] : List UInt8) ++ be8s [sid]).map bval).length = 12 from rfl] at hx2
  subst hx2
  have N2 : Ext wa m2 := N1.trans b2
  refine hK.out _ _ N2 (fun hW => ?_)
  clear hK K
  try simp only [nm]
  refine rdy 12 rfl fun K hK => ?_
  refine zbn (by rfl) ?_
  refine zbk (some 17) _ _ _ _ rfl rfl #[.slice a2 12 c2, .slice (some ⟨B, 1, none⟩) 32 32] iq (.slice none 0 0) q141 HQ0.out HQ1.out (by rw [HQ2.out]; decide) (by rw [HQ2.out]; decide) (by rw [HQ2.out]; kernel_rfl) ?_
  obtain ⟨m3, hm3⟩ : ∃ wNew, wNew = World.alloc m2 (.cells #[.slice a2 12 c2, .slice (some ⟨B, 1, none⟩) 32 32] 46) := ⟨_, rfl⟩
  rw [← hm3]
  have b3 : Ext m2 m3 := by rw [hm3]; exact Ext.alloc _ _
  obtain ⟨g3, hg3⟩ : ∃ gNew, gNew = (m2).heap.size := ⟨_, rfl⟩
  rw [← hg3]
  have r2 := r2.below b3
  have r3 : Row1 m3 (.slice (some ⟨g3, 0, none⟩) 2 2) [.slice a2 12 c2, .slice (some ⟨B, 1, none⟩) 32 32] := by rw [hm3, hg3]; exact Row1.made _ _ _ _ _ _ rfl rfl rfl (by unfold maxLen; omega)
  clear hm3 hg3
  have N3 : Ext wa m3 := N2.trans b3
  refine hK.out _ _ N3 (fun hW => ?_)
  clear hK K
  try simp only [nm]
  refine rdy 13 rfl fun K hK => ?_
  go_simp
  refine (HVF.out _ m3 N3 (rowB2 r3 r2 ((HRK.out).below N3))).mono ?_
  rintro e m4 ⟨rfl, b4⟩
  have r2 := r2.below b4
  have r3 := r3.below b4
  have N4 : Ext wa m4 := N3.trans b4
  refine hK.out _ _ N4 (fun hW => ?_)
  clear hK K
  try simp only [nm]
  refine tke 14 (.bool q) rfl (zct _ _ _ true _ (by rfl) rfl rfl rfl) hW ?_
  simp only [nm]
  refine rdy 15 rfl fun K hK => ?_
  go_simp
  refine hK.out _ _ N4 (fun hW => ?_)
  clear hK K
  try simp only [nm]
  refine dne ?_
  have HN := xt HE N4
  go_wp2_with fail
  go_ret
  exact ⟨by rw [HQ.out]; rfl, HN.out⟩
theorem cCheckStop_any (pub sig : List UInt8) (sid : Int) (w : World) (hp : pub.length = 32) (hs : sig.length = 64) (hG : CMG w) :
  Calls Tryz.prog 17 #[.agg (pub.map bval).toArray, .agg (stopC sid sig).toArray] w fun e w' => e = .returned (.bool (stopV pub sid sig)) ∧ Below w.heap.size w w' := by
 obtain ⟨i0, hi, hz0, hz1, hz2⟩ := info_parts Tryz.info5
 obtain ⟨iq, hq0, hq1, hq2⟩ := info_two (P := Tryz.prog) (t := 46) (z := .slice none 0 0) (n := 1) (by kernel_rfl)
 have HI0 := jh hi
 have HZ0 := jh hz0
 have HZ1 := jh hz1
 have HZ2 := jh hz2
 have HQ0 := jh hq0
 have HQ1 := jh hq1
 have HQ2 := jh hq2
 clear hi hz0 hz1 hz2 hq0 hq1 hq2
 have HRL := jh hp
 have HSL := jh hs
 have HIR := jh (zac hp)
 have HG := jh hG
 have HB := jh (boxes2 w (pub.map bval) (stopC sid sig) 23 39)
 clear hp hs hG
 go_enter Tryz.func17, Tryz.ntmps17
 go_upto_region 1 with (fail)
 obtain ⟨H1, H2, HE⟩ := HB.out
 change Code.wp _ _ _ _ ((w.alloc (.cells (pub.map bval).toArray 23)).alloc (.cells (stopC sid sig).toArray 39))
 generalize (w.alloc (.cells (pub.map bval).toArray 23)).alloc (.cells (stopC sid sig).toArray 39) = wa at *
 have HE : Hid (Ext w wa) := jh HE
 obtain ⟨B, hB⟩ : ∃ B, B = w.heap.size + 1 := ⟨_, rfl⟩
 rw [← hB] at H2 ⊢
 obtain ⟨A, hA⟩ : ∃ A, A = w.heap.size := ⟨_, rfl⟩
 rw [← hA] at H1 ⊢
 have H1 := jh H1
 obtain ⟨hp1, hp2⟩ := stop_parts H2
 have HP1 := jh hp1
 have HP2 := jh hp2
 clear hA hB HB H2 hp1 hp2
 cases hsm : smallB sid with
 | false =>
  have HSB := jh hsm
  have HQ : Hid (stopV pub sid sig = false) := jh (by unfold stopV; rw [hsm]; rfl)
  clear hsm
  have B0 : Ext wa wa.drew := Ext.drew _
  refine wp_region_held_drew (S := fun w' => Ext wa w') (by kernel_rfl) B0 (fun hW => ?_)
  refine tke 0 (.pointer (some ⟨B, 0, none⟩)) rfl (zbj (.pointer (some ⟨B, 0, none⟩)) (by rfl) (fun w _ => by go_simp)) hW ?_
  simp only [nm]
  refine tke 1 (.int .i64 sid) rfl (zbj (.int .i64 sid) (by rfl) (fun w h => by have hc := (Below.cell h (q138 wa _ HP1.out)).trans HP1.out; go_simp)) hW ?_
  simp only [nm]
  refine rdy 2 rfl fun K hK => ?_
  go_simp
  refine (cid_b sid false wa.drew HSB.out).mono ?_
  rintro e m1 ⟨rfl, b1⟩
  have N1 : Ext wa m1 := B0.trans b1
  refine hK.out _ _ N1 (fun hW => ?_)
  clear hK K
  try simp only [nm]
  refine tke 3 (.bool false) rfl (zbm _ (.bool false) (by rfl) rfl rfl) hW ?_
  simp only [nm]
  refine tke 4 undef rfl (zbt (by rfl)) hW ?_
  simp only [nm]
  refine tke 5 undef rfl (zbt (by rfl)) hW ?_
  simp only [nm]
  refine tke 6 undef rfl (zbt (by rfl)) hW ?_
  simp only [nm]
  refine tke 7 undef rfl (zbt (by rfl)) hW ?_
  simp only [nm]
  refine tke 8 undef rfl (zbt (by rfl)) hW ?_
  simp only [nm]
  refine tke 9 undef rfl (zbt (by rfl)) hW ?_
  simp only [nm]
  refine tke 10 undef rfl (zbt (by rfl)) hW ?_
  simp only [nm]
  refine tke 11 undef rfl (zbt (by rfl)) hW ?_
  simp only [nm]
  refine tke 12 (.bool false) rfl (zct _ _ _ false _ (by rfl) rfl rfl rfl) hW ?_
  simp only [nm]
  refine rdy 13 rfl fun K hK => ?_
  go_simp
  refine hK.out _ _ N1 (fun hW => ?_)
  clear hK K
  try simp only [nm]
  refine dne ?_
  have HN := xt HE N1
  go_wp2_with fail
  go_ret
  exact ⟨by rw [HQ.out]; rfl, HN.out⟩
 | true =>
  have HSB := jh hsm
  obtain ⟨q, hq⟩ : ∃ q, q = verB pub sig (stopT sid) := ⟨_, rfl⟩
  have HQ : Hid (stopV pub sid sig = q) := jh (by unfold stopV; rw [hsm, hq]; rfl)
  have HVF := jh (fun (x : Value) (wx : World) (hx : Ext wa wx) (hr : RowB wx x [([80, 67, 83, 84] : List UInt8) ++ be8s [sid]]) => by
   have hGw := HG.out.ext (HE.out.trans hx)
   have hf : ([([80, 67, 83, 84] : List UInt8) ++ be8s [sid]]).flatten = stopT sid := by simp [stopT]
   have h := CVer_num pub sig x _ wx HRL.out HSL.out hr (by rw [hf, zev]; decide) (by simp) hGw.1 hGw.2.1 hGw.2.2
   rw [hf, ← hq] at h
   exact h)
  clear hq hsm
  have B0 : Ext wa wa.drew := Ext.drew _
  refine wp_region_held_drew (S := fun w' => Ext wa w') (by kernel_rfl) B0 (fun hW => ?_)
  refine tke 0 (.pointer (some ⟨B, 0, none⟩)) rfl (zbj (.pointer (some ⟨B, 0, none⟩)) (by rfl) (fun w _ => by go_simp)) hW ?_
  simp only [nm]
  refine tke 1 (.int .i64 sid) rfl (zbj (.int .i64 sid) (by rfl) (fun w h => by have hc := (Below.cell h (q138 wa _ HP1.out)).trans HP1.out; go_simp)) hW ?_
  simp only [nm]
  refine rdy 2 rfl fun K hK => ?_
  go_simp
  refine (cid_b sid true wa.drew HSB.out).mono ?_
  rintro e m1 ⟨rfl, b1⟩
  have N1 : Ext wa m1 := B0.trans b1
  refine hK.out _ _ N1 (fun hW => ?_)
  clear hK K
  try simp only [nm]
  refine tke 3 (.bool true) rfl (zbm _ (.bool true) (by rfl) rfl rfl) hW ?_
  simp only [nm]
  refine tke 4 (.agg ((pub).map bval).toArray) rfl (sld A 0 (fun w h => zah H1.out h) q100 HIR.out) hW ?_
  simp only [nm]
  refine tke 5 (.pointer (some ⟨B, 1, none⟩)) rfl (zbj (.pointer (some ⟨B, 1, none⟩)) (by rfl) (fun w _ => by go_simp)) hW ?_
  simp only [nm]
  refine tke 6 (.agg ((sig).map bval).toArray) rfl (sld B 1 (fun w h => rng_ext HP2.out h) q119 (zcg HSL.out)) hW ?_
  simp only [nm]
  refine tke 7 (.pointer (some ⟨B, 0, none⟩)) rfl (zbj (.pointer (some ⟨B, 0, none⟩)) (by rfl) (fun w _ => by go_simp)) hW ?_
  simp only [nm]
  refine tke 8 (.int .i64 sid) rfl (zbj (.int .i64 sid) (by rfl) (fun w h => by have hc := (Below.cell h (q138 wa _ HP1.out)).trans HP1.out; go_simp)) hW ?_
  simp only [nm]
  refine rdy 9 rfl fun K hK => ?_
  go_simp
  refine (cmarked_any ([80, 67, 83, 84] : List UInt8) sid m1 rfl).mono ?_
  rintro e m2 ⟨x2, rfl, o2, b2⟩
  have r2 : Row1 m2 x2 ((([80, 67, 83, 84] : List UInt8) ++ be8s [sid]).map bval) := Row1.of_own o2
  obtain ⟨a2, c2, hx2, _⟩ := id r2
  rw [show ((([80, 67, 83, 84] : List UInt8) ++ be8s [sid]).map bval).length = 12 from rfl] at hx2
  subst hx2
  have N2 : Ext wa m2 := N1.trans b2
  refine hK.out _ _ N2 (fun hW => ?_)
  clear hK K
  try simp only [nm]
  refine rdy 10 rfl fun K hK => ?_
  refine zbn (by rfl) ?_
  refine zbk (some 15) _ _ _ _ rfl rfl #[.slice a2 12 c2] iq (.slice none 0 0) q141 HQ0.out HQ1.out (by rw [HQ2.out]; decide) (by rw [HQ2.out]; decide) (by rw [HQ2.out]; kernel_rfl) ?_
  obtain ⟨m3, hm3⟩ : ∃ wNew, wNew = World.alloc m2 (.cells #[.slice a2 12 c2] 46) := ⟨_, rfl⟩
  rw [← hm3]
  have b3 : Ext m2 m3 := by rw [hm3]; exact Ext.alloc _ _
  obtain ⟨g3, hg3⟩ : ∃ gNew, gNew = (m2).heap.size := ⟨_, rfl⟩
  rw [← hg3]
  have r2 := r2.below b3
  have r3 : Row1 m3 (.slice (some ⟨g3, 0, none⟩) 1 1) [.slice a2 12 c2] := by rw [hm3, hg3]; exact Row1.made _ _ _ _ _ _ rfl rfl rfl (by unfold maxLen; omega)
  clear hm3 hg3
  have N3 : Ext wa m3 := N2.trans b3
  refine hK.out _ _ N3 (fun hW => ?_)
  clear hK K
  try simp only [nm]
  refine rdy 11 rfl fun K hK => ?_
  go_simp
  refine (HVF.out _ m3 N3 (rowB1 r3 r2)).mono ?_
  rintro e m4 ⟨rfl, b4⟩
  have r2 := r2.below b4
  have r3 := r3.below b4
  have N4 : Ext wa m4 := N3.trans b4
  refine hK.out _ _ N4 (fun hW => ?_)
  clear hK K
  try simp only [nm]
  refine tke 12 (.bool q) rfl (zct _ _ _ true _ (by rfl) rfl rfl rfl) hW ?_
  simp only [nm]
  refine rdy 13 rfl fun K hK => ?_
  go_simp
  refine hK.out _ _ N4 (fun hW => ?_)
  clear hK K
  try simp only [nm]
  refine dne ?_
  have HN := xt HE N4
  go_wp2_with fail
  go_ret
  exact ⟨by rw [HQ.out]; rfl, HN.out⟩
theorem cPackStop_any (sig : List UInt8) (sid : Int) (w : World) (hs : sig.length = 64) :
  Calls Tryz.prog 21 #[.agg (stopC sid sig).toArray] w fun e w' => ∃ x, e = .returned (.tuple #[x, .int .i64 (stpE sid)]) ∧ w'.ownsRow w.heap.size 5 1 x (pckL sid sig).length ((pckL sid sig).map bval) ∧ Below w.heap.size w w' := by
 obtain ⟨i0, hi, hz0, hz1, hz2⟩ := info_parts Tryz.info5
 obtain ⟨iq, hq0, hq1, hq2⟩ := info_two (P := Tryz.prog) (t := 46) (z := .slice none 0 0) (n := 1) (by kernel_rfl)
 have HI0 := jh hi
 have HZ0 := jh hz0
 have HZ1 := jh hz1
 have HZ2 := jh hz2
 have HQ0 := jh hq0
 have HQ1 := jh hq1
 have HQ2 := jh hq2
 clear hi hz0 hz1 hz2 hq0 hq1 hq2
 have HSL := jh hs
 have HB0 := jh (Blk.made w (stopC sid sig) 39)
 have HE0 := jh (Ext.alloc w (.cells (stopC sid sig).toArray 39))
 have HFL : Hid ([([80, 67, 83, 84] : List UInt8) ++ be8s [sid], sig].flatten.length = 76) := jh (by
  have h := zev sid
  unfold stopT at h
  simp only [List.flatten_cons, List.flatten_nil, q136, q108, hs] at h ⊢
  omega)
 clear hs
 go_enter Tryz.func21, Tryz.ntmps21
 go_upto_region 1 with (fail)
 change Code.wp _ _ _ _ (w.alloc (.cells (stopC sid sig).toArray 39))
 generalize w.alloc (.cells (stopC sid sig).toArray 39) = wa at *
 obtain ⟨A, hA⟩ : ∃ A, A = w.heap.size := ⟨_, rfl⟩
 rw [← hA] at HB0 ⊢
 clear hA
 obtain ⟨hp1, hp2⟩ := stop_parts HB0.out
 have HP1 := jh hp1
 have HRS := jh (row_rng (n := 64) hp2 HB0.out.lt (by rw [q101, HSL.out]) (by unfold maxLen; omega))
 have HE := HE0
 clear hp2 HE0
 go_wp2_with fail
 refine (cid_any sid wa).mono ?_
 rintro e w3 ⟨rfl, rfl⟩
 clear hp1
 cases hsm : smallB sid with
 | false =>
  have HQE : Hid (stpE sid = 1) := jh (by unfold stpE; rw [hsm]; rfl)
  have HQL : Hid (pckL sid sig = []) := jh (by unfold pckL; rw [hsm]; rfl)
  clear hsm
  go_wp2_with fail
  refine bodyPost_ret (res_twoP rfl _ _) rfl ?_
  exact ⟨_, by rw [HQE.out]; rfl, by rw [HQL.out]; exact World.ownsRow_nil _ _ _ _, HE.out⟩
 | true =>
  have HQE : Hid (stpE sid = 0) := jh (by unfold stpE; rw [hsm]; rfl)
  have HQL : Hid (pckL sid sig = stopB sid sig) := jh (by unfold pckL; rw [hsm]; rfl)
  clear hsm
  go_upto_region 3 with (fail)
  have B0 : Ext wa wa.drew := Ext.drew _
  refine wp_region_held_drew (S := fun w' => Ext wa w') (by kernel_rfl) B0 (fun hW => ?_)
  refine tke 0 (.pointer (some ⟨A, 0, none⟩)) rfl (zbj (.pointer (some ⟨A, 0, none⟩)) (by rfl) (fun w _ => by go_simp)) hW ?_
  simp only [nm]
  refine tke 1 (.int .i64 sid) rfl (zbj (.int .i64 sid) (by rfl) (fun w h => by have hc := (Below.cell h (q138 wa _ HP1.out)).trans HP1.out; go_simp)) hW ?_
  simp only [nm]
  refine tke 3 (.pointer (some ⟨A, 1, none⟩)) rfl (zbj (.pointer (some ⟨A, 1, none⟩)) (by rfl) (fun w _ => by go_simp)) hW ?_
  simp only [nm]
  refine tke 4 (.slice (some ⟨A, 1, none⟩) 64 64) rfl (zdy _ _ _ _ (.pointer (some ⟨A, 1, none⟩)) (.slice (some ⟨A, 1, none⟩) 64 64) none none (by rfl) rfl rfl rfl rfl (fun w => cut_part q119 q115 (by omega) _ _ w)) hW ?_
  simp only [nm]
  refine rdy 2 rfl fun K hK => ?_
  go_simp
  refine (cmarked_any ([80, 67, 83, 84] : List UInt8) sid wa.drew rfl).mono ?_
  rintro e m1 ⟨x1, rfl, o1, b1⟩
  have r1 : Row1 m1 x1 ((([80, 67, 83, 84] : List UInt8) ++ be8s [sid]).map bval) := Row1.of_own o1
  obtain ⟨a1, c1, hx1, _⟩ := id r1
  rw [show ((([80, 67, 83, 84] : List UInt8) ++ be8s [sid]).map bval).length = 12 from rfl] at hx1
  subst hx1
  have N1 : Ext wa m1 := B0.trans b1
  refine hK.out _ _ N1 (fun hW => ?_)
  clear hK K
  try simp only [nm]
  refine rdy 5 rfl fun K hK => ?_
  refine zbn (by rfl) ?_
  refine zbk (some 13) _ _ _ _ rfl rfl #[.slice a1 12 c1, .slice (some ⟨A, 1, none⟩) 64 64] iq (.slice none 0 0) q141 HQ0.out HQ1.out (by rw [HQ2.out]; decide) (by rw [HQ2.out]; decide) (by rw [HQ2.out]; kernel_rfl) ?_
  obtain ⟨m2, hm2⟩ : ∃ wNew, wNew = World.alloc m1 (.cells #[.slice a1 12 c1, .slice (some ⟨A, 1, none⟩) 64 64] 46) := ⟨_, rfl⟩
  rw [← hm2]
  have b2 : Ext m1 m2 := by rw [hm2]; exact Ext.alloc _ _
  obtain ⟨g2, hg2⟩ : ∃ gNew, gNew = (m1).heap.size := ⟨_, rfl⟩
  rw [← hg2]
  have r1 := r1.below b2
  have r2 : Row1 m2 (.slice (some ⟨g2, 0, none⟩) 2 2) [.slice a1 12 c1, .slice (some ⟨A, 1, none⟩) 64 64] := by rw [hm2, hg2]; exact Row1.made _ _ _ _ _ _ rfl rfl rfl (by unfold maxLen; omega)
  clear hm2 hg2
  have N2 : Ext wa m2 := N1.trans b2
  refine hK.out _ _ N2 (fun hW => ?_)
  clear hK K
  try simp only [nm]
  refine rdy 6 rfl fun K hK => ?_
  go_simp
  refine (stdConcat_any _ [([80, 67, 83, 84] : List UInt8) ++ be8s [sid], sig] m2 (rowB2 r2 r1 ((HRS.out).below N2)) (by rw [HFL.out]; decide)).mono ?_
  rintro e m3 ⟨x3, rfl, o3, b3⟩
  have r1 := r1.below b3
  have r2 := r2.below b3
  have o3 := own_mono o3 N2.size
  have N3 : Ext wa m3 := N2.trans b3
  refine hK.out _ _ N3 (fun hW => ?_)
  clear hK K
  try simp only [nm]
  refine tke 7 x3 rfl (yi_assign _ (x3) (by rfl) rfl rfl) hW ?_
  simp only [nm]
  refine rdy 8 rfl fun K hK => ?_
  go_simp
  refine hK.out _ _ N3 (fun hW => ?_)
  clear hK K
  try simp only [nm]
  refine dne ?_
  have HO9 := jh o3
  have HE9 := xt HE N3
  generalize m3 = w9 at HO9 HE9 ⊢
  go_wp2_with fail
  refine bodyPost_ret (res_twoP rfl _ _) rfl ?_
  exact ⟨_, by rw [HQE.out]; rfl, own_eq (own_mono HO9.out HE.out.size) (by rw [HQL.out, stopB_length sid HSL.out, HFL.out]) (by rw [HQL.out]; unfold stopB stopT; simp), HE9.out⟩
def rwB (b : List UInt8) (p : Nat) (bad : Bool) (n : Nat) : Bool := bad || decide (b.length < p + n)
def rwP (b : List UInt8) (p : Nat) (bad : Bool) (n : Nat) : Nat := if rwB b p bad n = true then p else p + n
def rwL (b : List UInt8) (p : Nat) (bad : Bool) (n : Nat) : List UInt8 := if rwB b p bad n = true then [] else (b.drop p).take n
def rwI (b : List UInt8) (p : Nat) (bad : Bool) : Int := if rwB b p bad 8 = true then 0 else decI ((b.drop p).take 8)
theorem readS_cur (b : List UInt8) : readS b = if rwL b 0 false 4 = [80, 67, 83, 84] ∧ (!rwB b (rwP b (rwP b 0 false 4) (rwB b 0 false 4) 8) (rwB b (rwP b 0 false 4) (rwB b 0 false 4) 8) 64 && decide (rwP b (rwP b (rwP b 0 false 4) (rwB b 0 false 4) 8) (rwB b (rwP b 0 false 4) (rwB b 0 false 4) 8) 64 = b.length)) = true ∧ smallB (rwI b (rwP b 0 false 4) (rwB b 0 false 4)) = true then
  some (rwI b (rwP b 0 false 4) (rwB b 0 false 4), if rwB b (rwP b (rwP b 0 false 4) (rwB b 0 false 4) 8) (rwB b (rwP b 0 false 4) (rwB b 0 false 4) 8) 64 = true then z64 else rwL b (rwP b (rwP b 0 false 4) (rwB b 0 false 4) 8) (rwB b (rwP b 0 false 4) (rwB b 0 false 4) 8) 64) else none := by
 by_cases h4 : b.length < 4
 ·have e1 : rwB b 0 false 4 = true := by unfold rwB; simp; omega
  have e2 : rwL b 0 false 4 = [] := by unfold rwL; rw [e1]; rfl
  rw [readS_long (by omega), e2, if_neg (fun h => by have := h.1; cases this)]
 ·have d1 : rwB b 0 false 4 = false := by unfold rwB; simp; omega
  have p1 : rwP b 0 false 4 = 4 := by unfold rwP; rw [d1]; rfl
  have tl : rwL b 0 false 4 = b.take 4 := by unfold rwL; rw [d1]; rfl
  rw [d1, p1, tl]
  by_cases h12 : b.length < 12
  ·have d2 : rwB b 4 false 8 = true := by unfold rwB; simp; omega
   rw [d2]
   have d3 : ∀ q, rwB b q true 64 = true := fun q => rfl
   rw [d3, readS_long (by omega), if_neg (fun h => by have := h.2.1; simp at this)]
  ·have d2 : rwB b 4 false 8 = false := by unfold rwB; simp; omega
   have p2 : rwP b 4 false 8 = 12 := by unfold rwP; rw [d2]; rfl
   have n1 : rwI b 4 false = decI ((b.drop 4).take 8) := by unfold rwI; rw [d2]; rfl
   rw [d2, p2, n1]
   by_cases h76 : b.length < 76
   ·have d3 : rwB b 12 false 64 = true := by unfold rwB; simp; omega
    rw [d3, readS_long (by omega), if_neg (fun h => by have := h.2.1; simp at this)]
   ·have d3 : rwB b 12 false 64 = false := by unfold rwB; simp; omega
    have p3 : rwP b 12 false 64 = 76 := by unfold rwP; rw [d3]; rfl
    have rl : rwL b 12 false 64 = (b.drop 12).take 64 := by unfold rwL; rw [d3]; rfl
    rw [d3, p3, rl]
    unfold readS
    by_cases hl : b.length = 76
    ·have e : (b.drop 12).take 64 = b.drop 12 := q110 (by rw [q139]; omega)
     rw [e]
     by_cases hc : b.take 4 = [80, 67, 83, 84] ∧ smallB (decI ((b.drop 4).take 8)) = true
     ·rw [if_pos ⟨hl, hc.1, hc.2⟩, if_pos ⟨hc.1, by simp [hl], hc.2⟩]
      rfl
     ·rw [if_neg (fun h => hc h.2), if_neg (fun h => hc ⟨h.1, h.2.2⟩)]
    ·rw [if_neg (fun h => hl h.1), if_neg (fun h => by have := h.2.1; simp at this; omega)]
theorem rd_yes {b : List UInt8} {x : Int × List UInt8} (h : readS b = some x) : rdE b = 0 ∧ rdI b = x.1 ∧ rdG b = x.2 := by
 unfold rdE rdI rdG
 rw [h]
 exact ⟨rfl, rfl, rfl⟩
theorem rd_no {b : List UInt8} (h : readS b = none) : rdE b = 4 ∧ rdI b = 0 ∧ rdG b = z64 := by
 unfold rdE rdI rdG
 rw [h]
 exact ⟨rfl, rfl, rfl⟩
theorem zet {P : Program} {a : Act} {w : World} {Q : Exit → Act → World → Prop} {c rest : Code} (l : Nat) (hf : findLabel c l = some rest) (h : c.wp P (Exit.jump l (fun a w => rest.wp P (Exit.noGoto Q) a w) Q) a w) : (Code.scope c).wp P Q a w :=
 wp_scope_jumps l _ (fun _ _ => 0) hf h (fun a w hJ => Code.wp_mono (fun e a w h => by cases e <;> first | exact h | exact absurd h (by simp [Exit.noGoto])) hJ)
theorem or_byteU (m bt : Nat) (hm : m < 72057594037927936) (hb : bt < 256) : bits .or .u64 (IntKind.u64.wrap ((m : Int) * 256)) (IntKind.u64.wrap (bt : Int)) = ((m * 256 + bt : Nat) : Int) := by
 have e1 : (BitVec.ofInt 64 (IntKind.u64.wrap ((m : Int) * 256))).toNat = m * 256 := by
  rw [BitVec.toNat_ofInt, IntKind.wrap_u64]
  omega
 have e2 : (BitVec.ofInt 64 (IntKind.u64.wrap (bt : Int))).toNat = bt := by
  rw [BitVec.toNat_ofInt, IntKind.wrap_u64]
  omega
 show IntKind.u64.wrap ((BitVec.ofInt 64 (IntKind.u64.wrap ((m : Int) * 256)) ||| BitVec.ofInt 64 (IntKind.u64.wrap (bt : Int))).toNat : Nat) = _
 rw [BitVec.toNat_or, e1, e2]
 have := Nat.two_pow_add_eq_or_of_lt (i := 8) (b := bt) (by simpa using hb) m
 rw [q129 m 256]
 have h2 : 256 * m ||| bt = 256 * m + bt := this.symm
 rw [h2, IntKind.wrap_u64]
 omega
theorem number_any {v : Value} {l : List UInt8} (w : World) (hv : Row1 w v (l.map bval)) (hl : 8 ≤ l.length) :
  Calls Tryz.prog 76 #[v] w fun e w' => e = .returned (.int .i64 (decI (l.take 8))) ∧ w = w' := by
 obtain ⟨a, cap, rfl, h1, h2, h3, h4⟩ := hv
 rw [q101] at h1 ⊢
 unfold maxLen at h2
 obtain ⟨b, off, rfl, hbw, hc⟩ := h4 (by intro e; have := List.map_eq_nil_iff.1 e; subst this; simp at hl)
 have hcell : ∀ k, k < 8 → w.cell? ⟨b, off + k, none⟩ = some (.int .u8 (l.getD k 0).toNat) := by
  intro k hk
  rw [hc k (by simp; omega), List.getElem?_map, List.getElem?_eq_getElem (by omega)]
  simp [List.getD, show k < l.length from by omega, bval]
 have HC := jh hcell
 have HL := jh hl
 have hcap8 : 8 ≤ cap := by omega
 clear h3 h4 hc hcell hl
 go_enter Tryz.func76, Tryz.ntmps76
 go_wp2_with fail
 go_loop [3, 9] (fun s i => ∃ k : Nat, k ≤ 8 ∧ i = .int .i64 k ∧ s = .int .u64 (accN (l.take k))) (fun _ i => 8 - (intOf i).toNat)
 case atStart => exact ⟨0, by omega, rfl, by rfl⟩
 case round =>
  obtain ⟨k, hk, rfl, rfl⟩ := hrel
  by_cases hlt : k < 8
  ·have hl := HL.out
   have c1 := HC.out k hlt
   have i0' : (0 : Int) ≤ (k : Int) := Int.natCast_nonneg _
   have i1 : (k : Int) < 8 := by omega
   have hm := accN_lt (l.take k)
   have hm2 : 256 ^ (l.take k).length ≤ 256 ^ 7 := q178 (by omega) (by simp; omega)
   have hm3 : (256 : Nat) ^ 7 = 72057594037927936 := by decide
   have hbt := (l.getD k 0).toNat_lt
   have hnext : bits .or .u64 (IntKind.u64.wrap ((accN (l.take k) : Int) * 256)) (IntKind.u64.wrap ((l.getD k 0).toNat : Int)) = (accN (l.take (k + 1)) : Int) := by
    rw [or_byteU _ _ (by omega) (by simpa using hbt), q159 (by omega), accN_snoc]
    simp [List.getD, show k < l.length from by omega]
   have HN := jh hnext
   clear hm hm2 hm3 hbt hnext
   generalize (l.getD k 0).toNat = bt at *
   generalize accN (l.take k) = m at *
   go_wp2_with fail
   go_round
   case rel => exact ⟨k + 1, by omega, by go_num, by rw [HN.out]⟩
   case measure => simp [intOf]; omega
  ·have hk' : k = 8 := by omega
   subst hk'
   go_wp2_with fail
   go_ret
   exact ⟨by unfold decI; rw [pck_i64wrap]; rfl, rfl⟩
def PCur (w : World) (B c : Nat) (l : List UInt8) (p : Nat) (bad : Bool) : Prop :=
 ∃ v, Blk w c [v, .bool bad] 111 ∧ c < B ∧ B ≤ w.heap.size ∧ p ≤ l.length ∧ l.length ≤ 1099511627776 ∧ (∀ k, v.ownBlock = some k → k < B ∧ k ≠ c) ∧
  (bad = true → v = .slice none 0 0) ∧ (bad = false → Row1 w v ((l.drop p).map bval))
theorem PCur.keep {w w' : World} {B c : Nat} {l : List UInt8} {p : Nat} {bad : Bool} (h : PCur w B c l p bad) (hh : ∀ k, k < B → w'.heap[k]? = w.heap[k]?) (hs : w.heap.size ≤ w'.heap.size) : PCur w' B c l p bad := by
 obtain ⟨v, h1, h2, h3, h4, h5, h6, h7, h8⟩ := h
 exact ⟨v, h1.same (hh c h2), h2, q121 h3 hs, h4, h5, h6, h7, fun e => (h8 e).same hs fun p hp _ => World.cell?_of_block (hh p.block (h6 p.block hp).1)⟩
theorem Row1.setFar {w : World} {v : Value} {vs : List Value} {c i : Nat} {u : Value} (h : Row1 w v vs) (hne : v.ownBlock ≠ some c) : Row1 (w.setCell ⟨c, i, none⟩ u) v vs := h.store hne u
theorem PCur.open (w : World) {B c : Nat} {l : List UInt8} {p : Nat} {bad : Bool} (h : PCur w B c l p bad) : ∃ a len cap, Blk w c [.slice a len cap, .bool bad] 111 ∧ c < B ∧ B ≤ w.heap.size ∧ p ≤ l.length ∧ l.length ≤ 1099511627776 ∧ (∀ k, (Value.slice a len cap).ownBlock = some k → k < B ∧ k ≠ c) ∧
  (bad = true → a = none ∧ len = 0 ∧ cap = 0) ∧ (bad = false → Row1 w (.slice a len cap) ((l.drop p).map bval) ∧ len = l.length - p ∧ len ≤ cap ∧ cap ≤ maxLen ∧ (a = none → cap = 0)) := by
 obtain ⟨v, h1, h2, h3, h4, h5, h6, h7, h8⟩ := h
 cases bad with
 | true =>
  have := h7 rfl
  subst this
  exact ⟨none, 0, 0, h1, h2, h3, h4, h5, h6, (fun _ => ⟨rfl, rfl, rfl⟩), (fun e => by cases e)⟩
 | false =>
  have hr := h8 rfl
  obtain ⟨a, cap, rfl, g1, g2, g3, g4⟩ := id hr
  exact ⟨a, _, cap, h1, h2, h3, h4, h5, h6, (fun e => by cases e), (fun _ => ⟨hr, by simp, g1, g2, g3⟩)⟩
theorem PCur.spoilt {w w' : World} {B c : Nat} {l : List UInt8} {p : Nat} {bad : Bool} (h : PCur w B c l p bad) (hb : Blk w' c [.slice none 0 0, .bool true] 111) (hs : w.heap.size ≤ w'.heap.size) : PCur w' B c l p true := by
 obtain ⟨v, h1, h2, h3, h4, h5, h6, h7, h8⟩ := h
 exact ⟨_, hb, h2, q121 h3 hs, h4, h5, (fun k hk => by simp [Value.ownBlock] at hk), (fun _ => rfl), (fun e => by cases e)⟩
theorem Row1.rest {w : World} {ad : Addr} {len cap : Nat} {vs : List Value} (h : Row1 w (.slice (some ad) len cap) vs) (n : Nat) (hn : n ≤ vs.length) : Row1 w (.slice (some (ad.add n)) (len - n) (cap - n)) (vs.drop n) := by
 obtain ⟨a', cap', e, h1, h2, h3, h4⟩ := id h
 cases e
 have := h.sliced n (vs.length - n) (by omega)
 rwa [q110 (by simp)] at this
theorem own_cut (ad : Addr) (n len cap : Nat) : (Value.slice (some (ad.add n)) (len - n) (cap - n)).ownBlock = (Value.slice (some ad) len cap).ownBlock := by
 simp only [Value.ownBlock, Addr.add]
 split <;> rfl
theorem PCur.moved {w w' : World} {B c : Nat} {l : List UInt8} {p n : Nat} {v : Value} (h : PCur w B c l p false) (hb : Blk w' c [v, .bool false] 111) (hs : w.heap.size ≤ w'.heap.size) (ho : ∀ k, v.ownBlock = some k → k < B ∧ k ≠ c) (hr : Row1 w' v (((l.drop p).drop n).map bval)) (hn : p + n ≤ l.length) : PCur w' B c l (p + n) false := by
 obtain ⟨v0, h1, h2, h3, h4, h5, h6, h7, h8⟩ := h
 refine ⟨v, hb, h2, q121 h3 hs, hn, h5, ho, (fun e => by cases e), (fun _ => ?_)⟩
 rwa [q166] at hr
/-- read, of what there is not. -/
theorem pread_no (w : World) (B c : Nat) (l : List UInt8) (p : Nat) (bad : Bool) (n : Int) (h : PCur w B c l p bad) (hn : bad = true ∨ n < 0 ∨ (l.length : Int) - p < n) :
  Calls Tryz.prog 75 #[.pointer (some ⟨c, 0, none⟩), .int .i64 n, .bool false] w fun e w' => e = .returned (.slice none 0 0) ∧ PCur w' B c l p true ∧ w.grownBy w' (some c) := by
 obtain ⟨a, len, cap, g1, g2, g3, g4, g5, g6, g7, g8⟩ := h.open
 have c0 := g1.cell 0
 have c1 := g1.cell 1
 have f0 := g1.free 0
 have f1 := g1.free 1
 simp only [List.getElem?_cons_zero, List.getElem?_cons_succ] at c0 c1
 have HP := jh h
 have HG := jh g1
 cases bad with
 | true =>
  clear h g1 g6 g7 hn g8
  go_enter Tryz.func75, Tryz.ntmps75
  go_wp2_with fail
  refine zet 0 (by rfl) ?_
  go_wp2_with fail
  go_step3
  refine ⟨rfl, ?_⟩
  go_wp2_with fail
  rw [Exit.noGoto_ret]
  go_ret
  exact ⟨rfl, HP.out.spoilt ((HG.out.set 0 (.slice none 0 0)).set 1 (.bool true)) (by simp), zbs (zbs (zce w _) 0 _) 1 _⟩
 | false =>
  obtain ⟨g9, g10, g11, g12, g13⟩ := g8 rfl
  unfold maxLen at g12
  have hlenI : (len : Int) = (l.length : Int) - p := by omega
  by_cases hneg : n < 0
  ·clear h g1 g6 g7 hn g8 g9 g10 g13 hlenI
   go_enter Tryz.func75, Tryz.ntmps75
   go_wp2_with fail
   refine zet 0 (by rfl) ?_
   go_wp2_with fail
   go_step3
   refine ⟨rfl, ?_⟩
   go_wp2_with fail
   rw [Exit.noGoto_ret]
   go_ret
   exact ⟨rfl, HP.out.spoilt ((HG.out.set 0 (.slice none 0 0)).set 1 (.bool true)) (by simp), zbs (zbs (zce w _) 0 _) 1 _⟩
  ·have h2 : (len : Int) < n := by
    rcases hn with h | h | h
    ·cases h
    ·exact absurd h hneg
    ·omega
   have hd : decide (n < 0) = false := decide_eq_false hneg
   clear h g1 g6 g7 hn g8 g9 g10 g13 hlenI hneg
   go_enter Tryz.func75, Tryz.ntmps75
   go_wp2_with fail
   refine zet 0 (by rfl) ?_
   go_wp2_with fail
   go_step3
   refine ⟨rfl, ?_⟩
   go_wp2_with fail
   rw [Exit.noGoto_ret]
   go_ret
   exact ⟨rfl, HP.out.spoilt ((HG.out.set 0 (.slice none 0 0)).set 1 (.bool true)) (by simp), zbs (zbs (zce w _) 0 _) 1 _⟩
/-- read, of what there is. -/
theorem pread_yes (w : World) (B c : Nat) (l : List UInt8) (p n : Nat) (h : PCur w B c l p false) (hn : p + n ≤ l.length) :
  Calls Tryz.prog 75 #[.pointer (some ⟨c, 0, none⟩), .int .i64 n, .bool false] w fun e w' => ∃ v, e = .returned v ∧ Row1 w' v (((l.drop p).take n).map bval) ∧ (∀ k, v.ownBlock = some k → k < B ∧ k ≠ c) ∧ PCur w' B c l (p + n) false ∧ w.grownBy w' (some c) := by
 obtain ⟨a, len, cap, g1, g2, g3, g4, g5, g6, g7, g8⟩ := h.open
 have c0 := g1.cell 0
 have c1 := g1.cell 1
 have f0 := g1.free 0
 have f1 := g1.free 1
 simp only [List.getElem?_cons_zero, List.getElem?_cons_succ] at c0 c1
 have HP := jh h
 have HG := jh g1
 obtain ⟨g9, g10, g11, g12, g13⟩ := g8 rfl
 unfold maxLen at g12
 have hnl : n ≤ len := by omega
 have hnc : n ≤ cap := by omega
 have hd : decide ((n : Int) < 0) = false := decide_eq_false (by omega)
 have hd2 : decide ((len : Int) < (n : Int)) = false := decide_eq_false (by omega)
 have hn0 : (0 : Int) ≤ (n : Int) := Int.natCast_nonneg _
 have hml : n ≤ ((l.drop p).map bval).length := by simp; omega
 have HOWN := jh g6
 have HN := jh hn
 have HNE : Hid ((Value.slice a len cap).ownBlock ≠ some c) := jh fun e => (g6 c e).2 rfl
 have HHEAD := jh (g9.head n hml)
 rw [← List.map_take] at HHEAD
 cases a with
 | none =>
  have hc0 : cap = 0 := g13 rfl
  have hl0 : len = 0 := by omega
  have hn00 : n = 0 := by omega
  subst hc0 hl0 hn00
  have HREST : Hid (Row1 w (.slice none 0 0) (((l.drop p).drop 0).map bval)) := jh g9
  clear h g1 g6 g7 hn g8 g9 g10 g13 hml
  go_enter Tryz.func75, Tryz.ntmps75
  go_wp2_with fail
  refine zet 0 (by rfl) ?_
  go_wp2_with fail
  go_region
  go_wp2_with fail
  simp only [Exit.jump]
  go_ret
  refine ⟨_, rfl, HHEAD.out.drew.setFar HNE.out, HOWN.out, HP.out.moved (n := 0) ((HG.out.drewN 1).set 0 (.slice none 0 0)) (by simp) HOWN.out (HREST.out.drew.setFar HNE.out) HN.out, zbs (grownBy_drewN (zce w _) 1) 0 _⟩
 | some ad =>
  by_cases hc : n = cap
  ·subst hc
   have hln : len = n := by omega
   subst hln
   have HREST : Hid (Row1 w (.slice (some ad) 0 0) (((l.drop p).drop len).map bval)) := jh (by
    rw [List.drop_of_length_le (by simp; omega)]
    exact Row1.empty w ad 0 (q149 _))
   clear h g1 g6 g7 hn g8 g9 g10 g13 hml
   go_enter Tryz.func75, Tryz.ntmps75
   go_wp2_with fail
   refine zet 0 (by rfl) ?_
   go_wp2_with fail
   go_region
   go_wp2_with fail
   simp only [Exit.jump]
   go_ret
   refine ⟨_, rfl, HHEAD.out.drew.setFar HNE.out, HOWN.out, HP.out.moved (n := len) ((HG.out.drewN 1).set 0 _) (by simp) HOWN.out (HREST.out.drew.setFar HNE.out) HN.out, zbs (grownBy_drewN (zce w _) 1) 0 _⟩
  ·have hcz : ¬ cap = n := fun e => hc e.symm
   have HREST := jh (g9.rest n hml)
   rw [← List.map_drop] at HREST
   have HOWN2 : Hid (∀ k, (Value.slice (some (ad.add n)) (len - n) (cap - n)).ownBlock = some k → k < B ∧ k ≠ c) := jh (by rw [own_cut ad n len cap]; exact g6)
   have HNE2 : Hid ((Value.slice (some (ad.add n)) (len - n) (cap - n)).ownBlock ≠ some c) := jh (by rw [own_cut ad n len cap]; exact HNE.out)
   clear h g1 g6 g7 hn g8 g9 g10 g13 hml
   go_enter Tryz.func75, Tryz.ntmps75
   go_wp2_with fail
   refine zet 0 (by rfl) ?_
   go_wp2_with fail
   go_region
   go_wp2_with fail
   simp only [Exit.jump]
   go_ret
   refine ⟨_, rfl, HHEAD.out.drew.setFar HNE.out, HOWN.out, HP.out.moved (n := n) ((HG.out.drewN 1).set 0 _) (by simp) HOWN2.out (HREST.out.drew.setFar HNE2.out) HN.out, zbs (grownBy_drewN (zce w _) 1) 0 _⟩
theorem PCur.lt {w : World} {B c : Nat} {l : List UInt8} {p : Nat} {bad : Bool} (h : PCur w B c l p bad) : c < B ∧ B ≤ w.heap.size := by
 obtain ⟨v, h1, h2, h3, _⟩ := h
 exact ⟨h2, h3⟩
theorem PCur.grown {w w' : World} {B c : Nat} {l : List UInt8} {p : Nat} {bad : Bool} (h : PCur w B c l p bad) (hg : w.grownBy w' none) : PCur w' B c l p bad :=
 h.keep (fun k hk => hg.block k (q114 hk h.lt.2) (by simp)) hg.size
theorem pnew (v : Value) (l : List UInt8) (w : World) (hv : Row1 w v (l.map bval)) (hl : l.length ≤ 1099511627776) :
  Calls Tryz.prog 41 #[v] w fun e w' => ∃ B c, e = .returned (.pointer (some ⟨c, 0, none⟩)) ∧ PCur w' B c l 0 false ∧ w.heap.size ≤ c ∧ Below w.heap.size w w' := by
 obtain ⟨i0, hi, hz0, hz1, hz2⟩ := info_parts Tryz.info5
 have HV := jh hv
 have hbl : Hid ((l.map bval).length = l.length) := jh (by simp)
 clear hv
 go_enter Tryz.func41, Tryz.ntmps41
 go_wp2_with (at_builtin; refine zam rfl _ _ 46 rfl w.heap.size 5 i0 (.int .u8 0) 1 q107 hi hz0 hz1 hz2 rfl _ 0 [] rfl (World.ownsRow_nil _ _ _ _) rfl HV.out (zaf _) (by rw [hbl.out]; unfold maxLen; omega) (by rw [hbl.out]; omega) (q102 _) ?_; intro v1 w1 hown1 hgrow1; obtain ⟨a1, cap1, rfl, _, _, _, _⟩ := id (Row1.of_own hown1))
 go_ret
 have HG := jh hgrow1
 rw [q118, hbl.out] at hown1
 have HO := jh hown1
 have hb : Below w.heap.size w w1 := (Below.refl _ _).grown HG.out (q102 _) (fun r hr => by cases hr)
 refine ⟨w1.heap.size + 1, w1.heap.size, rfl, ⟨_, Blk.made _ _ _, by omega, by simp, q149 _, hl, ?_, (fun e => by cases e), (fun _ => ?_)⟩, HG.out.size, hb.alloc HG.out.size _⟩
 ·intro k hk
  have := (HO.out.lt k hk).2
  exact ⟨by omega, by omega⟩
 ·rw [List.drop_zero]
  exact (Row1.of_own HO.out).alloc _
theorem pint_no (w : World) (B c : Nat) (l : List UInt8) (p : Nat) (bad : Bool) (h : PCur w B c l p bad) (hn : bad = true ∨ l.length < p + 8) :
  Calls Tryz.prog 43 #[.pointer (some ⟨c, 0, none⟩)] w fun e w' => e = .returned (.int .i64 0) ∧ PCur w' B c l p true ∧ w.grownBy w' (some c) := by
 have HR := jh (pread_no w B c l p bad 8 h (hn.elim Or.inl fun h => Or.inr (Or.inr (by omega))))
 clear h hn
 go_enter Tryz.func43, Tryz.ntmps43
 go_wp2_with fail
 refine HR.out.mono ?_
 rintro e w1 ⟨rfl, hp, hg⟩
 obtain ⟨a, len, cap, g1, _⟩ := hp.open
 have c1 := g1.cell 1
 simp only [List.getElem?_cons_zero, List.getElem?_cons_succ] at c1
 have HP := jh hp
 have HG := jh hg
 clear hp hg g1
 go_wp2_with fail
 go_ret
 exact ⟨rfl, HP.out, HG.out⟩
theorem pint_yes (w : World) (B c : Nat) (l : List UInt8) (p : Nat) (h : PCur w B c l p false) (hn : p + 8 ≤ l.length) :
  Calls Tryz.prog 43 #[.pointer (some ⟨c, 0, none⟩)] w fun e w' => e = .returned (.int .i64 (decI ((l.drop p).take 8))) ∧ PCur w' B c l (p + 8) false ∧ w.grownBy w' (some c) := by
 have HR := jh (pread_yes w B c l p 8 h hn)
 have hl8 : Hid (((l.drop p).take 8).length = 8) := jh (by simp; omega)
 have ht : Hid (((l.drop p).take 8).take 8 = (l.drop p).take 8) := jh (by rw [List.take_take]; rfl)
 clear h hn
 go_enter Tryz.func43, Tryz.ntmps43
 go_wp2_with fail
 refine HR.out.mono ?_
 rintro e w1 ⟨v, rfl, hv, _, hp, hg⟩
 obtain ⟨a, len, cap, g1, _⟩ := hp.open
 have c1 := g1.cell 1
 simp only [List.getElem?_cons_zero, List.getElem?_cons_succ] at c1
 have hnum := number_any w1 hv (by rw [hl8.out]; omega)
 rw [ht.out] at hnum
 have HN := jh hnum
 have HP := jh hp
 have HG := jh hg
 clear hp hg g1 hv hnum
 go_wp2_with fail
 refine HN.out.mono ?_
 rintro e w' ⟨rfl, rfl⟩
 go_wp2_with fail
 go_ret
 exact ⟨rfl, HP.out, HG.out⟩
theorem praw_no (w : World) (B c : Nat) (l : List UInt8) (p : Nat) (bad : Bool) (n : Int) (h : PCur w B c l p bad) (hn : bad = true ∨ n < 0 ∨ (l.length : Int) - p < n) :
  Calls Tryz.prog 42 #[.pointer (some ⟨c, 0, none⟩), .int .i64 n] w fun e w' => ∃ v, e = .returned v ∧ w'.ownsRow w.heap.size 5 1 v 0 [] ∧ PCur w' B c l p true ∧ w.grownBy w' (some c) := by
 obtain ⟨i0, hi, hz0, hz1, hz2⟩ := info_parts Tryz.info5
 have HR := jh (pread_no w B c l p bad n h hn)
 clear h hn
 go_enter Tryz.func42, Tryz.ntmps42
 go_wp2_with fail
 refine HR.out.mono ?_
 rintro e w1 ⟨rfl, hp, hg⟩
 have HP := jh hp
 have HG := jh hg
 clear hp hg
 go_wp2_with (at_builtin; refine zam rfl _ _ 46 rfl w.heap.size 5 i0 (.int .u8 0) 1 q107 hi hz0 hz1 hz2 rfl _ 0 [] rfl (World.ownsRow_nil _ _ _ _) rfl (Row1.nil w1) (fun u hu => by cases hu) (by unfold maxLen; simp) (by simp) HG.out.size ?_; intro v1 w2 hown1 hgrow1)
 have HO := jh hown1
 have HG2 := jh hgrow1
 clear hown1 hgrow1
 go_wp2_with fail
 go_ret
 exact ⟨_, rfl, HO.out, HP.out.grown HG2.out, grownBy_trans HG.out (grownBy_of_none HG2.out)⟩
theorem praw_yes (w : World) (B c : Nat) (l : List UInt8) (p n : Nat) (h : PCur w B c l p false) (hn : p + n ≤ l.length) :
  Calls Tryz.prog 42 #[.pointer (some ⟨c, 0, none⟩), .int .i64 n] w fun e w' => ∃ v, e = .returned v ∧ w'.ownsRow w.heap.size 5 1 v n (((l.drop p).take n).map bval) ∧ PCur w' B c l (p + n) false ∧ w.grownBy w' (some c) := by
 obtain ⟨i0, hi, hz0, hz1, hz2⟩ := info_parts Tryz.info5
 have HR := jh (pread_yes w B c l p n h hn)
 have hll : l.length ≤ 1099511627776 := by obtain ⟨v, _, _, _, _, h5, _⟩ := h; exact h5
 have hbl : Hid ((((l.drop p).take n).map bval).length = n) := jh (by simp; omega)
 have hn40 : n ≤ 1099511627776 := by omega
 clear h hn hll
 go_enter Tryz.func42, Tryz.ntmps42
 go_wp2_with fail
 refine HR.out.mono ?_
 rintro e w1 ⟨v, rfl, hv, _, hp, hg⟩
 have HV := jh hv
 have HP := jh hp
 have HG := jh hg
 clear hp hg hv
 go_wp2_with (at_builtin; refine zam rfl _ _ 46 rfl w.heap.size 5 i0 (.int .u8 0) 1 q107 hi hz0 hz1 hz2 rfl _ 0 [] rfl (World.ownsRow_nil _ _ _ _) rfl HV.out (zaf _) (by rw [hbl.out]; unfold maxLen; omega) (by rw [hbl.out]; omega) HG.out.size ?_; intro v1 w2 hown1 hgrow1)
 rw [q118, hbl.out, q125] at hown1
 have HO := jh hown1
 have HG2 := jh hgrow1
 clear hown1 hgrow1
 go_wp2_with fail
 go_ret
 exact ⟨_, rfl, HO.out, HP.out.grown HG2.out, grownBy_trans HG.out (grownBy_of_none HG2.out)⟩
theorem pend (w : World) (B c : Nat) (l : List UInt8) (p : Nat) (bad : Bool) (h : PCur w B c l p bad) :
  Calls Tryz.prog 44 #[.pointer (some ⟨c, 0, none⟩)] w fun e w' => e = .returned (.bool (!bad && decide (p = l.length))) ∧ ∃ k, w' = w.drewN k := by
 obtain ⟨a, len, cap, g1, g2, g3, g4, g5, g6, g7, g8⟩ := h.open
 have c0 := g1.cell 0
 have c1 := g1.cell 1
 simp only [List.getElem?_cons_zero, List.getElem?_cons_succ] at c0 c1
 cases bad with
 | true =>
  clear h g1 g6 g7 g8
  go_enter Tryz.func44, Tryz.ntmps44
  go_wp2_with fail
  go_ret
  exact ⟨rfl, 0, rfl⟩
 | false =>
  have hl := (g8 rfl).2.1
  by_cases hp : p = l.length
  ·have h0 : len = 0 := by omega
   subst h0
   have HD : Hid (decide (p = l.length) = true) := jh (decide_eq_true hp)
   clear h g1 g6 g7 g8 hp hl
   go_enter Tryz.func44, Tryz.ntmps44
   go_wp2_with fail
   go_ret
   exact ⟨by rw [HD.out]; rfl, 0, rfl⟩
  ·have h0 : ((len : Int) == 0) = false := by simp; omega
   have HD : Hid (decide (p = l.length) = false) := jh (decide_eq_false hp)
   clear h g1 g6 g7 g8 hp hl
   go_enter Tryz.func44, Tryz.ntmps44
   go_wp2_with fail
   go_ret
   exact ⟨by rw [HD.out]; rfl, 0, rfl⟩
theorem row_range {w : World} {a : Option Addr} {n cap : Nat} {vs : List Value} (h : Row1 w (.slice a n cap) vs) (hne : vs ≠ []) : ∃ b off, a = some ⟨b, off, none⟩ ∧ w.rangeAt b off vs := by
 obtain ⟨a', cap', he, _, _, _, h5⟩ := h
 obtain ⟨b, off, ha, _, hc⟩ := h5 hne
 injection he with e1 e2 e3
 subst e1
 refine ⟨b, off, ha, fun j v hj => ?_⟩
 have hjl : j < vs.length := by
  rcases q116 j vs.length with h' | h'
  ·exact h'
  ·rw [List.getElem?_eq_none h'] at hj; cases hj
 rw [hc j hjl, hj]
