/- Lemmas. -/
import Derived.Test.YthafgicndklgfaaGreatDoorQy07
namespace Go.Proofs.YthafgicndklgfaaGreatDoor
set_option linter.unusedVariables false
set_option maxRecDepth 100000
set_option maxHeartbeats 32000000
set_option linter.unusedSimpArgs false
open Go.RowKit
theorem cpickn_f (w : World) (s : Bool) (f g : Fp) : Calls Tryz.prog 88 #[.agg ((nbF f).map bval).toArray, .agg ((nbF g).map bval).toArray, .bool s] w fun e w' => e = .returned (.agg ((nbF (pkF s f g)).map bval).toArray) ∧ Below w.heap.size w w' := by
 have h := fpick_f s w (zae f) (zae g)
 rwa [pkL_nbF] at h
theorem csquare_f (w : World) (f : Fp) : Calls Tryz.prog 124 #[.agg ((nbF f).map bval).toArray] w fun e w' => e = .returned (.agg ((nbF (f * f)).map bval).toArray) ∧ Below w.heap.size w w' := by
 have HB := jh (boxes2 w ((nbF f).map bval) (ints .u8 (List.replicate 32 0)) 23 23)
 go_enter Tryz.func124, Tryz.ntmps124
 go_upto_region 1 with (fail)
 obtain ⟨H1, H2, HE⟩ := HB.out
 change Code.wp _ _ _ _ (World.alloc (World.alloc w (.cells ((nbF f).map bval).toArray 23)) (.cells (ints .u8 (List.replicate 32 0)).toArray 23))
 generalize (World.alloc (World.alloc w (.cells ((nbF f).map bval).toArray 23)) (.cells (ints .u8 (List.replicate 32 0)).toArray 23)) = wa at *
 obtain ⟨A, hA⟩ : ∃ A, A = w.heap.size := ⟨_, rfl⟩
 have HAW : Hid (w.heap.size ≤ A) := jh (by omega)
 rw [← hA] at H1 H2 ⊢
 have H1 := jh H1
 have H2 := jh H2
 have HE : Hid (Ext w wa) := jh HE
 clear hA HB
 go_wp2_with (first | (refine wpList_load_mid rfl _ _ rfl A 0 rfl _ _ (H1.out.range) q100 rfl (zac (zae _)) ?_))
 refine (fmul_f _ (F32.nb _) (F32.nb _)).mono ?_
 rintro e w5 ⟨rfl, hb⟩
 have H2 := xb H2 hb
 have HE := xt HE hb
 obtain ⟨z, hz⟩ : ∃ z, z = f * f := ⟨_, rfl⟩
 rw [← hz]
 have HZQ := jh hz
 clear hz hb
 have HL : Hid (((nbF z).map bval).length = (ints .u8 (List.replicate 32 0)).length) := jh (by rw [q101, zae]; rfl)
 go_wp2_with (refine ssb (A + 1) ((nbF z).map bval) H2.out HL.out (zac (zae _)) (zaf _) ?_; intro w8 hb8 hg8)
 exact bodyPost_ret (zap (by rfl) _ (A + 1) _ _ _ (by rfl) hb8 q100 rfl (zac (zae _))) rfl ⟨by rw [← HZQ.out], zab HE.out hg8 (by have := HAW.out; omega)⟩
theorem cdouble_f (w : World) (f : Fp) : Calls Tryz.prog 126 #[.agg ((nbF f).map bval).toArray] w fun e w' => e = .returned (.agg ((nbF (f + f)).map bval).toArray) ∧ Below w.heap.size w w' := by
 have HB := jh (boxes2 w ((nbF f).map bval) (ints .u8 (List.replicate 32 0)) 23 23)
 go_enter Tryz.func126, Tryz.ntmps126
 go_upto_region 1 with (fail)
 obtain ⟨H1, H2, HE⟩ := HB.out
 change Code.wp _ _ _ _ (World.alloc (World.alloc w (.cells ((nbF f).map bval).toArray 23)) (.cells (ints .u8 (List.replicate 32 0)).toArray 23))
 generalize (World.alloc (World.alloc w (.cells ((nbF f).map bval).toArray 23)) (.cells (ints .u8 (List.replicate 32 0)).toArray 23)) = wa at *
 obtain ⟨A, hA⟩ : ∃ A, A = w.heap.size := ⟨_, rfl⟩
 have HAW : Hid (w.heap.size ≤ A) := jh (by omega)
 rw [← hA] at H1 H2 ⊢
 have H1 := jh H1
 have H2 := jh H2
 have HE : Hid (Ext w wa) := jh HE
 clear hA HB
 go_wp2_with (first | (refine wpList_load_mid rfl _ _ rfl A 0 rfl _ _ (H1.out.range) q100 rfl (zac (zae _)) ?_))
 refine (fadd_f _ (F32.nb _) (F32.nb _)).mono ?_
 rintro e w5 ⟨rfl, hb⟩
 have H2 := xb H2 hb
 have HE := xt HE hb
 obtain ⟨z, hz⟩ : ∃ z, z = f + f := ⟨_, rfl⟩
 rw [← hz]
 have HZQ := jh hz
 clear hz hb
 have HL : Hid (((nbF z).map bval).length = (ints .u8 (List.replicate 32 0)).length) := jh (by rw [q101, zae]; rfl)
 go_wp2_with (refine ssb (A + 1) ((nbF z).map bval) H2.out HL.out (zac (zae _)) (zaf _) ?_; intro w8 hb8 hg8)
 exact bodyPost_ret (zap (by rfl) _ (A + 1) _ _ _ (by rfl) hb8 q100 rfl (zac (zae _))) rfl ⟨by rw [← HZQ.out], zab HE.out hg8 (by have := HAW.out; omega)⟩
theorem cover_f (w : World) (x bx y b : Fp) : Calls Tryz.prog 125 #[.agg ((nbF x).map bval).toArray, .agg ((nbF bx).map bval).toArray, .agg ((nbF y).map bval).toArray, .agg ((nbF b).map bval).toArray] w fun e w' => e = .returned (.agg (ptF (overE x bx y b)).toArray) ∧ Below w.heap.size w w' := by
 have HB := jh (boxes5 w ((nbF x).map bval) ((nbF bx).map bval) ((nbF y).map bval) ((nbF b).map bval) zq 23 23 23 23 85)
 go_enter Tryz.func125, Tryz.ntmps125
 go_upto_region 1 with (fail)
 obtain ⟨H1, H2, H3, H4, H5, HE⟩ := HB.out
 change Code.wp _ _ _ _ (World.alloc (World.alloc (World.alloc (World.alloc (World.alloc w (.cells ((nbF x).map bval).toArray 23)) (.cells ((nbF bx).map bval).toArray 23)) (.cells ((nbF y).map bval).toArray 23)) (.cells ((nbF b).map bval).toArray 23)) (.cells zq.toArray 85))
 generalize (World.alloc (World.alloc (World.alloc (World.alloc (World.alloc w (.cells ((nbF x).map bval).toArray 23)) (.cells ((nbF bx).map bval).toArray 23)) (.cells ((nbF y).map bval).toArray 23)) (.cells ((nbF b).map bval).toArray 23)) (.cells zq.toArray 85)) = wa at *
 obtain ⟨A, hA⟩ : ∃ A, A = w.heap.size := ⟨_, rfl⟩
 have HAW : Hid (w.heap.size ≤ A) := jh (by omega)
 rw [← hA] at H1 H2 H3 H4 H5 ⊢
 have H1 := jh H1
 have H2 := jh H2
 have H3 := jh H3
 have H4 := jh H4
 have H5 := jh H5
 have HE : Hid (Ext w wa) := jh HE
 clear hA HB
 go_wp2_with fail
 refine swf 13 1 13 ?_
 refine sdk A 0 ((nbF x).map bval) (fun w hw => (zad H1.out hw).range) q100 (zac (zae _)) ?_
 simp only [nm]
 refine sdk (A + 1 + 1 + 1) 0 ((nbF b).map bval) (fun w hw => (zad H4.out hw).range) q100 (zac (zae _)) ?_
 simp only [nm]
 refine sdc [.agg ((nbF x).map bval).toArray, .agg ((nbF b).map bval).toArray] (.agg ((nbF (x * b)).map bval).toArray) q143 (fun w hw => fmul_f w (F32.nb _) (F32.nb _)) ?_
 simp only [nm]
 refine sdk (A + 1 + 1) 0 ((nbF y).map bval) (fun w hw => (zad H3.out hw).range) q100 (zac (zae _)) ?_
 simp only [nm]
 refine sdk (A + 1) 0 ((nbF bx).map bval) (fun w hw => (zad H2.out hw).range) q100 (zac (zae _)) ?_
 simp only [nm]
 refine sdc [.agg ((nbF y).map bval).toArray, .agg ((nbF bx).map bval).toArray] (.agg ((nbF (y * bx)).map bval).toArray) q143 (fun w hw => fmul_f w (F32.nb _) (F32.nb _)) ?_
 simp only [nm]
 refine sdk (A + 1) 0 ((nbF bx).map bval) (fun w hw => (zad H2.out hw).range) q100 (zac (zae _)) ?_
 simp only [nm]
 refine sdk (A + 1 + 1 + 1) 0 ((nbF b).map bval) (fun w hw => (zad H4.out hw).range) q100 (zac (zae _)) ?_
 simp only [nm]
 refine sdc [.agg ((nbF bx).map bval).toArray, .agg ((nbF b).map bval).toArray] (.agg ((nbF (bx * b)).map bval).toArray) q143 (fun w hw => fmul_f w (F32.nb _) (F32.nb _)) ?_
 simp only [nm]
 refine sdk A 0 ((nbF x).map bval) (fun w hw => (zad H1.out hw).range) q100 (zac (zae _)) ?_
 simp only [nm]
 refine sdk (A + 1 + 1) 0 ((nbF y).map bval) (fun w hw => (zad H3.out hw).range) q100 (zac (zae _)) ?_
 simp only [nm]
 refine sdc [.agg ((nbF x).map bval).toArray, .agg ((nbF y).map bval).toArray] (.agg ((nbF (x * y)).map bval).toArray) q143 (fun w hw => fmul_f w (F32.nb _) (F32.nb _)) ?_
 simp only [nm]
 refine zei _ _ #[(0, .agg ((nbF (x * b)).map bval).toArray), (1, .agg ((nbF (y * bx)).map bval).toArray), (2, .agg ((nbF (bx * b)).map bval).toArray), (3, .agg ((nbF (x * y)).map bval).toArray)] (.agg (ptF ⟨x * b, y * bx, bx * b, x * y⟩).toArray) (by rfl) rfl (by simp [Act.eval]) (fun w => build_ptF ⟨x * b, y * bx, bx * b, x * y⟩ w) ?_
 simp only [nm]
 refine zao (zec (k := 13) _ _ _ _ (A + 1 + 1 + 1 + 1) (ptF ⟨x * b, y * bx, bx * b, x * y⟩) zq rfl (by kernel_rfl) (by kernel_rfl) (by kernel_rfl) rfl rfl rfl rfl H5.out ((zat _).trans zq_length.symm) (zar _) (zcf _) (fun w8 hb8 hg8 => ?_))
 simp only [Act.put]
 go_wp2_with fail
 exact bodyPost_ret (zap (by rfl) _ (A + 1 + 1 + 1 + 1) _ _ _ (by rfl) hb8 q113 rfl (zar _)) rfl ⟨rfl, zab HE.out hg8 (by have := HAW.out; omega)⟩
theorem csum_f (w : World) (p q : ES) (hG : GlobC w) : Calls Tryz.prog 94 #[.agg (ptF p).toArray, .agg (ptF q).toArray] w fun e w' => e = .returned (.agg (ptF (p.sum q)).toArray) ∧ Below w.heap.size w w' := by
 have HGC := jh hG
 clear hG
 have HB := jh (boxes3 w (ptF p) (ptF q) zq 85 85 85)
 go_enter Tryz.func94, Tryz.ntmps94
 go_upto_region 1 with (fail)
 obtain ⟨H1, H2, H3, HE⟩ := HB.out
 change Code.wp _ _ _ _ (World.alloc (World.alloc (World.alloc w (.cells (ptF p).toArray 85)) (.cells (ptF q).toArray 85)) (.cells zq.toArray 85))
 generalize (World.alloc (World.alloc (World.alloc w (.cells (ptF p).toArray 85)) (.cells (ptF q).toArray 85)) (.cells zq.toArray 85)) = wa at *
 obtain ⟨A, hA⟩ : ∃ A, A = w.heap.size := ⟨_, rfl⟩
 have HAW : Hid (w.heap.size ≤ A) := jh (by omega)
 rw [← hA] at H1 H2 H3 ⊢
 have H1 := jh H1
 have H2 := jh H2
 have H3 := jh H3
 have HE : Hid (Ext w wa) := jh HE
 clear hA HB
 go_wp2_with fail
 refine swf 11 2 12 ?_
 refine zbd _ _ A _ 0 32 (by rfl) rfl rfl (fun w => by go_simp) ?_
 simp only [nm]
 refine sdk A 32 ((nbF p.y).map bval) (fun w hw => ptF_y ((zad H1.out hw).range) rfl) q100 (zac (zae _)) ?_
 simp only [nm]
 refine zbd _ _ A _ 0 0 (by rfl) rfl rfl (fun w => by go_simp) ?_
 simp only [nm]
 refine sdk A 0 ((nbF p.x).map bval) (fun w hw => ptF_x ((zad H1.out hw).range)) q100 (zac (zae _)) ?_
 simp only [nm]
 refine sdc [.agg ((nbF p.y).map bval).toArray, .agg ((nbF p.x).map bval).toArray] (.agg ((nbF (p.y - p.x)).map bval).toArray) q142 (fun w hw => fsub_f w (F32.nb _) (F32.nb _)) ?_
 simp only [nm]
 refine zbd _ _ (A + 1) _ 0 32 (by rfl) rfl rfl (fun w => by go_simp) ?_
 simp only [nm]
 refine sdk (A + 1) 32 ((nbF q.y).map bval) (fun w hw => ptF_y ((zad H2.out hw).range) rfl) q100 (zac (zae _)) ?_
 simp only [nm]
 refine zbd _ _ (A + 1) _ 0 0 (by rfl) rfl rfl (fun w => by go_simp) ?_
 simp only [nm]
 refine sdk (A + 1) 0 ((nbF q.x).map bval) (fun w hw => ptF_x ((zad H2.out hw).range)) q100 (zac (zae _)) ?_
 simp only [nm]
 refine sdc [.agg ((nbF q.y).map bval).toArray, .agg ((nbF q.x).map bval).toArray] (.agg ((nbF (q.y - q.x)).map bval).toArray) q142 (fun w hw => fsub_f w (F32.nb _) (F32.nb _)) ?_
 simp only [nm]
 refine sdc [.agg ((nbF (p.y - p.x)).map bval).toArray, .agg ((nbF (q.y - q.x)).map bval).toArray] (.agg ((nbF ((p.y - p.x) * (q.y - q.x))).map bval).toArray) q143 (fun w hw => fmul_f w (F32.nb _) (F32.nb _)) ?_
 simp only [nm]
 refine zao (zep (k := 11) _ 5 (.tmp 19) (ints .u8 (List.replicate 32 0)) ((nbF ((p.y - p.x) * (q.y - q.x))).map bval) rfl rfl (by kernel_rfl) (by kernel_rfl) (by kernel_rfl) (by kernel_rfl) (by kernel_rfl) rfl rfl rfl rfl (fun w => by rw [q109]; rfl) rfl (by simp) (fun p => rfl) (by rw [q101, zae]; rfl) (zac (zae _)) (zaf _) (fun pl wl hp hb he => ?_))
 try simp only [nm]
 have H1 := xb H1 he
 have H2 := xb H2 he
 have H3 := xb H3 he
 have HE := xt HE he
 have HPl := jh hp
 clear he hp
 obtain ⟨vl, hq⟩ : ∃ kk, kk = ((p.y - p.x) * (q.y - q.x)) := ⟨_, rfl⟩
 rw [← hq] at hb
 have HQl := jh hq
 clear hq
 have HVl := jh hb
 clear hb
 go_wp2_with fail
 refine swf 11 2 12 ?_
 refine zbd _ _ A _ 0 32 (by rfl) rfl rfl (fun w => by go_simp) ?_
 simp only [nm]
 refine sdk A 32 ((nbF p.y).map bval) (fun w hw => ptF_y ((zad H1.out hw).range) rfl) q100 (zac (zae _)) ?_
 simp only [nm]
 refine zbd _ _ A _ 0 0 (by rfl) rfl rfl (fun w => by go_simp) ?_
 simp only [nm]
 refine sdk A 0 ((nbF p.x).map bval) (fun w hw => ptF_x ((zad H1.out hw).range)) q100 (zac (zae _)) ?_
 simp only [nm]
 refine sdc [.agg ((nbF p.y).map bval).toArray, .agg ((nbF p.x).map bval).toArray] (.agg ((nbF (p.y + p.x)).map bval).toArray) Tryz.call85 (fun w hw => fadd_f w (F32.nb _) (F32.nb _)) ?_
 simp only [nm]
 refine zbd _ _ (A + 1) _ 0 32 (by rfl) rfl rfl (fun w => by go_simp) ?_
 simp only [nm]
 refine sdk (A + 1) 32 ((nbF q.y).map bval) (fun w hw => ptF_y ((zad H2.out hw).range) rfl) q100 (zac (zae _)) ?_
 simp only [nm]
 refine zbd _ _ (A + 1) _ 0 0 (by rfl) rfl rfl (fun w => by go_simp) ?_
 simp only [nm]
 refine sdk (A + 1) 0 ((nbF q.x).map bval) (fun w hw => ptF_x ((zad H2.out hw).range)) q100 (zac (zae _)) ?_
 simp only [nm]
 refine sdc [.agg ((nbF q.y).map bval).toArray, .agg ((nbF q.x).map bval).toArray] (.agg ((nbF (q.y + q.x)).map bval).toArray) Tryz.call85 (fun w hw => fadd_f w (F32.nb _) (F32.nb _)) ?_
 simp only [nm]
 refine sdc [.agg ((nbF (p.y + p.x)).map bval).toArray, .agg ((nbF (q.y + q.x)).map bval).toArray] (.agg ((nbF ((p.y + p.x) * (q.y + q.x))).map bval).toArray) q143 (fun w hw => fmul_f w (F32.nb _) (F32.nb _)) ?_
 simp only [nm]
 refine zao (zep (k := 11) _ 6 (.tmp 30) (ints .u8 (List.replicate 32 0)) ((nbF ((p.y + p.x) * (q.y + q.x))).map bval) rfl rfl (by kernel_rfl) (by kernel_rfl) (by kernel_rfl) (by kernel_rfl) (by kernel_rfl) rfl rfl rfl rfl (fun w => by rw [q109]; rfl) rfl (by simp) (fun p => rfl) (by rw [q101, zae]; rfl) (zac (zae _)) (zaf _) (fun pm wm hp hb he => ?_))
 try simp only [nm]
 have H1 := xb H1 he
 have H2 := xb H2 he
 have H3 := xb H3 he
 have HVl := xb HVl he
 have HE := xt HE he
 have HPm := jh hp
 clear he hp
 obtain ⟨vm, hq⟩ : ∃ kk, kk = ((p.y + p.x) * (q.y + q.x)) := ⟨_, rfl⟩
 rw [← hq] at hb
 have HQm := jh hq
 clear hq
 have HVm := jh hb
 clear hb
 go_wp2_with (first | (refine wpList_load_mid rfl _ _ rfl A 64 rfl _ _ (ptF_z (H1.out.range) rfl) q100 rfl (zac (zae _)) ?_) | (refine wpList_load_mid rfl _ _ rfl (A + 1) 64 rfl _ _ (ptF_z (H2.out.range) rfl) q100 rfl (zac (zae _)) ?_))
 refine (fmul_f _ (F32.nb _) (F32.nb _)).mono ?_
 rintro e w5 ⟨rfl, hb⟩
 have H1 := xb H1 hb
 have H2 := xb H2 hb
 have H3 := xb H3 hb
 have HVl := xb HVl hb
 have HVm := xb HVm hb
 have HE := xt HE hb
 clear hb
 go_wp2_with fail
 refine (cdouble_f _ _).mono ?_
 rintro e w6 ⟨rfl, hb⟩
 have H1 := xb H1 hb
 have H2 := xb H2 hb
 have H3 := xb H3 hb
 have HVl := xb HVl hb
 have HVm := xb HVm hb
 have HE := xt HE hb
 clear hb
 obtain ⟨vz, hq⟩ : ∃ k, k = p.z * q.z + p.z * q.z := ⟨_, rfl⟩
 rw [← hq]
 have HQz := jh hq
 clear hq
 have HZ := jh (Blk.made w6 (ints .u8 (List.replicate 32 0)) 23)
 have HEA := jh (Ext.alloc w6 (.cells (ints .u8 (List.replicate 32 0)).toArray 23))
 have HL : Hid (((nbF vz).map bval).length = (ints .u8 (List.replicate 32 0)).length) := jh (by rw [q101, zae]; rfl)
 go_upto_region 4 with (refine ssb w6.heap.size ((nbF vz).map bval) HZ.out HL.out (zac (zae _)) (zaf _) ?_; intro w7 hb hg)
 have HX := jh (zab HEA.out hg (q102 _))
 obtain ⟨pz, hT⟩ : ∃ T, T = w6.heap.size := ⟨_, rfl⟩
 rw [← hT] at hb ⊢
 clear hT
 have H1 := xb H1 HX.out
 have H2 := xb H2 HX.out
 have H3 := xb H3 HX.out
 have HVl := xb HVl HX.out
 have HVm := xb HVm HX.out
 have HE := xt HE HX.out
 have HVz := jh hb
 clear hb hg HX HZ HEA
 generalize w7 = wz at *
 go_wp2_with fail
 refine swf 8 2 9 ?_
 refine sdk 3 0 ((nbF dF).map bval) (fun w hw => HGC.out.ext (HE.out.trans hw)) q100 (zac (zae _)) ?_
 simp only [nm]
 refine zbd _ _ A _ 0 96 (by rfl) rfl rfl (fun w => by go_simp) ?_
 simp only [nm]
 refine sdk A 96 ((nbF p.t).map bval) (fun w hw => ptF_t ((zad H1.out hw).range) rfl) q100 (zac (zae _)) ?_
 simp only [nm]
 refine zbd _ _ (A + 1) _ 0 96 (by rfl) rfl rfl (fun w => by go_simp) ?_
 simp only [nm]
 refine sdk (A + 1) 96 ((nbF q.t).map bval) (fun w hw => ptF_t ((zad H2.out hw).range) rfl) q100 (zac (zae _)) ?_
 simp only [nm]
 refine sdc [.agg ((nbF p.t).map bval).toArray, .agg ((nbF q.t).map bval).toArray] (.agg ((nbF (p.t * q.t)).map bval).toArray) q143 (fun w hw => fmul_f w (F32.nb _) (F32.nb _)) ?_
 simp only [nm]
 refine sdc [.agg ((nbF dF).map bval).toArray, .agg ((nbF (p.t * q.t)).map bval).toArray] (.agg ((nbF (dF * (p.t * q.t))).map bval).toArray) q143 (fun w hw => fmul_f w (F32.nb _) (F32.nb _)) ?_
 simp only [nm]
 refine sdc [.agg ((nbF (dF * (p.t * q.t))).map bval).toArray] (.agg ((nbF ((dF * (p.t * q.t)) + (dF * (p.t * q.t)))).map bval).toArray) Tryz.call126 (fun w hw => cdouble_f w (dF * (p.t * q.t))) ?_
 simp only [nm]
 refine zao (zep (k := 8) _ 8 (.tmp 44) (ints .u8 (List.replicate 32 0)) ((nbF ((dF * (p.t * q.t)) + (dF * (p.t * q.t)))).map bval) rfl rfl (by kernel_rfl) (by kernel_rfl) (by kernel_rfl) (by kernel_rfl) (by kernel_rfl) rfl rfl rfl rfl (fun w => by rw [q109]; rfl) rfl (by simp) (fun p => rfl) (by rw [q101, zae]; rfl) (zac (zae _)) (zaf _) (fun pt wt hp hb he => ?_))
 try simp only [nm]
 have H1 := xb H1 he
 have H2 := xb H2 he
 have H3 := xb H3 he
 have HVl := xb HVl he
 have HVm := xb HVm he
 have HVz := xb HVz he
 have HE := xt HE he
 have HPt := jh hp
 clear he hp
 obtain ⟨vt, hq⟩ : ∃ kk, kk = ((dF * (p.t * q.t)) + (dF * (p.t * q.t))) := ⟨_, rfl⟩
 rw [← hq] at hb
 have HQt := jh hq
 clear hq
 have HVt := jh hb
 clear hb
 go_wp2_with fail
 refine swf 13 1 13 ?_
 refine sdk pm 0 ((nbF vm).map bval) (fun w hw => (zad HVm.out hw).range) q100 (zac (zae _)) ?_
 simp only [nm]
 refine sdk pl 0 ((nbF vl).map bval) (fun w hw => (zad HVl.out hw).range) q100 (zac (zae _)) ?_
 simp only [nm]
 refine sdc [.agg ((nbF vm).map bval).toArray, .agg ((nbF vl).map bval).toArray] (.agg ((nbF (vm - vl)).map bval).toArray) q142 (fun w hw => fsub_f w (F32.nb _) (F32.nb _)) ?_
 simp only [nm]
 refine sdk pz 0 ((nbF vz).map bval) (fun w hw => (zad HVz.out hw).range) q100 (zac (zae _)) ?_
 simp only [nm]
 refine sdk pt 0 ((nbF vt).map bval) (fun w hw => (zad HVt.out hw).range) q100 (zac (zae _)) ?_
 simp only [nm]
 refine sdc [.agg ((nbF vz).map bval).toArray, .agg ((nbF vt).map bval).toArray] (.agg ((nbF (vz + vt)).map bval).toArray) Tryz.call85 (fun w hw => fadd_f w (F32.nb _) (F32.nb _)) ?_
 simp only [nm]
 refine sdk pm 0 ((nbF vm).map bval) (fun w hw => (zad HVm.out hw).range) q100 (zac (zae _)) ?_
 simp only [nm]
 refine sdk pl 0 ((nbF vl).map bval) (fun w hw => (zad HVl.out hw).range) q100 (zac (zae _)) ?_
 simp only [nm]
 refine sdc [.agg ((nbF vm).map bval).toArray, .agg ((nbF vl).map bval).toArray] (.agg ((nbF (vm + vl)).map bval).toArray) Tryz.call85 (fun w hw => fadd_f w (F32.nb _) (F32.nb _)) ?_
 simp only [nm]
 refine sdk pz 0 ((nbF vz).map bval) (fun w hw => (zad HVz.out hw).range) q100 (zac (zae _)) ?_
 simp only [nm]
 refine sdk pt 0 ((nbF vt).map bval) (fun w hw => (zad HVt.out hw).range) q100 (zac (zae _)) ?_
 simp only [nm]
 refine sdc [.agg ((nbF vz).map bval).toArray, .agg ((nbF vt).map bval).toArray] (.agg ((nbF (vz - vt)).map bval).toArray) q142 (fun w hw => fsub_f w (F32.nb _) (F32.nb _)) ?_
 simp only [nm]
 refine sdc [.agg ((nbF (vm - vl)).map bval).toArray, .agg ((nbF (vz + vt)).map bval).toArray, .agg ((nbF (vm + vl)).map bval).toArray, .agg ((nbF (vz - vt)).map bval).toArray] (.agg (ptF (overE (vm - vl) (vz + vt) (vm + vl) (vz - vt))).toArray) Tryz.call125 (fun w hw => cover_f w (vm - vl) (vz + vt) (vm + vl) (vz - vt)) ?_
 simp only [nm]
 refine zao (zec (k := 13) _ _ _ _ (A + 1 + 1) (ptF (overE (vm - vl) (vz + vt) (vm + vl) (vz - vt))) zq rfl (by kernel_rfl) (by kernel_rfl) (by kernel_rfl) rfl rfl rfl rfl H3.out ((zat _).trans zq_length.symm) (zar _) (zcf _) (fun w8 hb8 hg8 => ?_))
 simp only [Act.put]
 go_wp2_with fail
 exact bodyPost_ret (zap (by rfl) _ (A + 1 + 1) _ _ _ (by rfl) hb8 q113 rfl (zar _)) rfl ⟨by rw [HQl.out, HQm.out, HQz.out, HQt.out, ← csum_eq]; rfl, zab HE.out hg8 (by have := HAW.out; omega)⟩
theorem ctwice_f (w : World) (p : ES) : Calls Tryz.prog 92 #[.agg (ptF p).toArray] w fun e w' => e = .returned (.agg (ptF p.dbl).toArray) ∧ Below w.heap.size w w' := by
 have HB := jh (boxes2 w (ptF p) zq 85 85)
 go_enter Tryz.func92, Tryz.ntmps92
 go_upto_region 1 with (fail)
 obtain ⟨H1, H2, HE⟩ := HB.out
 change Code.wp _ _ _ _ (World.alloc (World.alloc w (.cells (ptF p).toArray 85)) (.cells zq.toArray 85))
 generalize (World.alloc (World.alloc w (.cells (ptF p).toArray 85)) (.cells zq.toArray 85)) = wa at *
 obtain ⟨A, hA⟩ : ∃ A, A = w.heap.size := ⟨_, rfl⟩
 have HAW : Hid (w.heap.size ≤ A) := jh (by omega)
 rw [← hA] at H1 H2 ⊢
 have H1 := jh H1
 have H2 := jh H2
 have HE : Hid (Ext w wa) := jh HE
 clear hA HB
 go_wp2_with fail
 refine swf 12 6 15 ?_
 refine zbd _ _ A _ 0 0 (by rfl) rfl rfl (fun w => by go_simp) ?_
 simp only [nm]
 refine sdk A 0 ((nbF p.x).map bval) (fun w hw => ptF_x ((zad H1.out hw).range)) q100 (zac (zae _)) ?_
 simp only [nm]
 refine sdc [.agg ((nbF p.x).map bval).toArray] (.agg ((nbF (p.x * p.x)).map bval).toArray) Tryz.call124 (fun w hw => csquare_f w p.x) ?_
 simp only [nm]
 refine zbd _ _ A _ 0 32 (by rfl) rfl rfl (fun w => by go_simp) ?_
 simp only [nm]
 refine sdk A 32 ((nbF p.y).map bval) (fun w hw => ptF_y ((zad H1.out hw).range) rfl) q100 (zac (zae _)) ?_
 simp only [nm]
 refine sdc [.agg ((nbF p.y).map bval).toArray] (.agg ((nbF (p.y * p.y)).map bval).toArray) Tryz.call124 (fun w hw => csquare_f w p.y) ?_
 simp only [nm]
 refine zbd _ _ A _ 0 0 (by rfl) rfl rfl (fun w => by go_simp) ?_
 simp only [nm]
 refine sdk A 0 ((nbF p.x).map bval) (fun w hw => ptF_x ((zad H1.out hw).range)) q100 (zac (zae _)) ?_
 simp only [nm]
 refine zbd _ _ A _ 0 32 (by rfl) rfl rfl (fun w => by go_simp) ?_
 simp only [nm]
 refine sdk A 32 ((nbF p.y).map bval) (fun w hw => ptF_y ((zad H1.out hw).range) rfl) q100 (zac (zae _)) ?_
 simp only [nm]
 refine sdc [.agg ((nbF p.x).map bval).toArray, .agg ((nbF p.y).map bval).toArray] (.agg ((nbF (p.x + p.y)).map bval).toArray) Tryz.call85 (fun w hw => fadd_f w (F32.nb _) (F32.nb _)) ?_
 simp only [nm]
 refine sdc [.agg ((nbF (p.x + p.y)).map bval).toArray] (.agg ((nbF ((p.x + p.y) * (p.x + p.y))).map bval).toArray) Tryz.call124 (fun w hw => csquare_f w (p.x + p.y)) ?_
 simp only [nm]
 refine zao (end_var3 (k := 12) 23 3 4 5 (.tmp 10) (.tmp 13) (.tmp 19) (ints .u8 (List.replicate 32 0)) ((nbF (p.x * p.x)).map bval) ((nbF (p.y * p.y)).map bval) ((nbF ((p.x + p.y) * (p.x + p.y))).map bval) rfl rfl rfl rfl rfl rfl (by kernel_rfl) rfl rfl rfl rfl rfl rfl rfl rfl rfl rfl rfl rfl (by decide) (by decide) (by decide) (fun w => by rw [q109]; rfl) rfl rfl rfl rfl rfl rfl (by simp) (by simp) (by simp) (fun p q r => rfl) (fun p q r => rfl) (fun p q r => rfl) (by rw [q101, zae]; rfl) (by rw [q101, zae]; rfl) (by rw [q101, zae]; rfl) (zac (zae _)) (zac (zae _)) (zac (zae _)) (zaf _) (zaf _) (zaf _) (fun px py pb wb hpq hpr hqr hp1 hp2 hp3 hb1 hb2 hb3 he => ?_))
 try simp only [nm]
 have H1 := xb H1 he
 have H2 := xb H2 he
 have HE := xt HE he
 have HPx := jh hp1
 have HPy := jh hp2
 have HPb := jh hp3
 clear he hpq hpr hqr hp1 hp2 hp3
 obtain ⟨vx, hq⟩ : ∃ kk, kk = (p.x * p.x) := ⟨_, rfl⟩
 rw [← hq] at hb1
 have HQx := jh hq
 clear hq
 have HVx := jh hb1
 obtain ⟨vy, hq⟩ : ∃ kk, kk = (p.y * p.y) := ⟨_, rfl⟩
 rw [← hq] at hb2
 have HQy := jh hq
 clear hq
 have HVy := jh hb2
 obtain ⟨vb, hq⟩ : ∃ kk, kk = ((p.x + p.y) * (p.x + p.y)) := ⟨_, rfl⟩
 rw [← hq] at hb3
 have HQb := jh hq
 clear hq
 have HVb := jh hb3
 clear hb1 hb2 hb3
 go_wp2_with fail
 refine swf 6 4 8 ?_
 refine sdk py 0 ((nbF vy).map bval) (fun w hw => (zad HVy.out hw).range) q100 (zac (zae _)) ?_
 simp only [nm]
 refine sdk px 0 ((nbF vx).map bval) (fun w hw => (zad HVx.out hw).range) q100 (zac (zae _)) ?_
 simp only [nm]
 refine sdc [.agg ((nbF vy).map bval).toArray, .agg ((nbF vx).map bval).toArray] (.agg ((nbF (vy + vx)).map bval).toArray) Tryz.call85 (fun w hw => fadd_f w (F32.nb _) (F32.nb _)) ?_
 simp only [nm]
 refine sdk py 0 ((nbF vy).map bval) (fun w hw => (zad HVy.out hw).range) q100 (zac (zae _)) ?_
 simp only [nm]
 refine sdk px 0 ((nbF vx).map bval) (fun w hw => (zad HVx.out hw).range) q100 (zac (zae _)) ?_
 simp only [nm]
 refine sdc [.agg ((nbF vy).map bval).toArray, .agg ((nbF vx).map bval).toArray] (.agg ((nbF (vy - vx)).map bval).toArray) q142 (fun w hw => fsub_f w (F32.nb _) (F32.nb _)) ?_
 simp only [nm]
 refine zao (end_var2 (k := 6) 23 6 7 (.tmp 22) (.tmp 25) (ints .u8 (List.replicate 32 0)) ((nbF (vy + vx)).map bval) ((nbF (vy - vx)).map bval) rfl rfl rfl rfl (by kernel_rfl) (by kernel_rfl) (by kernel_rfl) (by kernel_rfl) (by kernel_rfl) (by kernel_rfl) (by kernel_rfl) (by kernel_rfl) (by kernel_rfl) (by kernel_rfl) rfl rfl rfl rfl rfl rfl rfl rfl (by decide) (fun w => by rw [q109]; rfl) rfl rfl rfl rfl (by simp) (by simp) (fun p q => rfl) (fun p q => rfl) (by rw [q101, zae]; rfl) (by rw [q101, zae]; rfl) (zac (zae _)) (zac (zae _)) (zaf _) (zaf _) (fun pm pl wl hpq hp1 hp2 hb1 hb2 he => ?_))
 try simp only [nm]
 have H1 := xb H1 he
 have H2 := xb H2 he
 have HVx := xb HVx he
 have HVy := xb HVy he
 have HVb := xb HVb he
 have HE := xt HE he
 have HPQ := jh hpq
 have HPm := jh hp1
 have HPl := jh hp2
 clear he hpq hp1 hp2
 obtain ⟨vm, hq⟩ : ∃ kk, kk = (vy + vx) := ⟨_, rfl⟩
 rw [← hq] at hb1
 have HQm := jh hq
 clear hq
 have HVm := jh hb1
 obtain ⟨vl, hq⟩ : ∃ kk, kk = (vy - vx) := ⟨_, rfl⟩
 rw [← hq] at hb2
 have HQl := jh hq
 clear hq
 have HVl := jh hb2
 clear hb1 hb2
 go_wp2_with fail
 refine swf 12 1 12 ?_
 refine sdk pb 0 ((nbF vb).map bval) (fun w hw => (zad HVb.out hw).range) q100 (zac (zae _)) ?_
 simp only [nm]
 refine sdk pm 0 ((nbF vm).map bval) (fun w hw => (zad HVm.out hw).range) q100 (zac (zae _)) ?_
 simp only [nm]
 refine sdc [.agg ((nbF vb).map bval).toArray, .agg ((nbF vm).map bval).toArray] (.agg ((nbF (vb - vm)).map bval).toArray) q142 (fun w hw => fsub_f w (F32.nb _) (F32.nb _)) ?_
 simp only [nm]
 refine sdk pl 0 ((nbF vl).map bval) (fun w hw => (zad HVl.out hw).range) q100 (zac (zae _)) ?_
 simp only [nm]
 refine sdk pm 0 ((nbF vm).map bval) (fun w hw => (zad HVm.out hw).range) q100 (zac (zae _)) ?_
 simp only [nm]
 refine zbd _ _ A _ 0 64 (by rfl) rfl rfl (fun w => by go_simp) ?_
 simp only [nm]
 refine sdk A 64 ((nbF p.z).map bval) (fun w hw => ptF_z ((zad H1.out hw).range) rfl) q100 (zac (zae _)) ?_
 simp only [nm]
 refine sdc [.agg ((nbF p.z).map bval).toArray] (.agg ((nbF (p.z * p.z)).map bval).toArray) Tryz.call124 (fun w hw => csquare_f w p.z) ?_
 simp only [nm]
 refine sdc [.agg ((nbF (p.z * p.z)).map bval).toArray] (.agg ((nbF ((p.z * p.z) + (p.z * p.z))).map bval).toArray) Tryz.call126 (fun w hw => cdouble_f w (p.z * p.z)) ?_
 simp only [nm]
 refine sdk pl 0 ((nbF vl).map bval) (fun w hw => (zad HVl.out hw).range) q100 (zac (zae _)) ?_
 simp only [nm]
 refine sdc [.agg ((nbF ((p.z * p.z) + (p.z * p.z))).map bval).toArray, .agg ((nbF vl).map bval).toArray] (.agg ((nbF (((p.z * p.z) + (p.z * p.z)) - vl)).map bval).toArray) q142 (fun w hw => fsub_f w (F32.nb _) (F32.nb _)) ?_
 simp only [nm]
 refine sdc [.agg ((nbF (vb - vm)).map bval).toArray, .agg ((nbF vl).map bval).toArray, .agg ((nbF vm).map bval).toArray, .agg ((nbF (((p.z * p.z) + (p.z * p.z)) - vl)).map bval).toArray] (.agg (ptF (overE (vb - vm) vl vm (((p.z * p.z) + (p.z * p.z)) - vl))).toArray) Tryz.call125 (fun w hw => cover_f w (vb - vm) vl vm (((p.z * p.z) + (p.z * p.z)) - vl)) ?_
 simp only [nm]
 refine zao (zec (k := 12) _ _ _ _ (A + 1) (ptF (overE (vb - vm) vl vm (((p.z * p.z) + (p.z * p.z)) - vl))) zq rfl (by kernel_rfl) (by kernel_rfl) (by kernel_rfl) rfl rfl rfl rfl H2.out ((zat _).trans zq_length.symm) (zar _) (zcf _) (fun w8 hb8 hg8 => ?_))
 simp only [Act.put]
 go_wp2_with fail
 exact bodyPost_ret (zap (by rfl) _ (A + 1) _ _ _ (by rfl) hb8 q113 rfl (zar _)) rfl ⟨by rw [HQm.out, HQl.out, HQx.out, HQy.out, HQb.out]; rfl, zab HE.out hg8 (by have := HAW.out; omega)⟩
theorem cpick_f (w : World) (s : Bool) (p q : ES) : Calls Tryz.prog 93 #[.agg (ptF p).toArray, .agg (ptF q).toArray, .bool s] w fun e w' => e = .returned (.agg (ptF (ES.pk s p q)).toArray) ∧ Below w.heap.size w w' := by
 have HB := jh (boxes3 w (ptF p) (ptF q) zq 85 85 85)
 go_enter Tryz.func93, Tryz.ntmps93
 go_upto_region 1 with (fail)
 obtain ⟨H1, H2, H3, HE⟩ := HB.out
 change Code.wp _ _ _ _ (World.alloc (World.alloc (World.alloc w (.cells (ptF p).toArray 85)) (.cells (ptF q).toArray 85)) (.cells zq.toArray 85))
 generalize (World.alloc (World.alloc (World.alloc w (.cells (ptF p).toArray 85)) (.cells (ptF q).toArray 85)) (.cells zq.toArray 85)) = wa at *
 obtain ⟨A, hA⟩ : ∃ A, A = w.heap.size := ⟨_, rfl⟩
 have HAW : Hid (w.heap.size ≤ A) := jh (by omega)
 rw [← hA] at H1 H2 H3 ⊢
 have H1 := jh H1
 have H2 := jh H2
 have H3 := jh H3
 have HE : Hid (Ext w wa) := jh HE
 clear hA HB
 go_wp2_with fail
 refine swf 25 1 25 ?_
 refine zbd _ _ A _ 0 0 (by rfl) rfl rfl (fun w => by go_simp) ?_
 simp only [nm]
 refine sdk A 0 ((nbF p.x).map bval) (fun w hw => ptF_x ((zad H1.out hw).range)) q100 (zac (zae _)) ?_
 simp only [nm]
 refine zbd _ _ (A + 1) _ 0 0 (by rfl) rfl rfl (fun w => by go_simp) ?_
 simp only [nm]
 refine sdk (A + 1) 0 ((nbF q.x).map bval) (fun w hw => ptF_x ((zad H2.out hw).range)) q100 (zac (zae _)) ?_
 simp only [nm]
 refine zas _ (.bool s) (by rfl) rfl rfl ?_
 simp only [nm]
 refine sdc [.agg ((nbF p.x).map bval).toArray, .agg ((nbF q.x).map bval).toArray, .bool s] (.agg ((nbF (pkF s p.x q.x)).map bval).toArray) Tryz.call88 (fun w hw => cpickn_f w s p.x q.x) ?_
 simp only [nm]
 refine zbd _ _ A _ 0 32 (by rfl) rfl rfl (fun w => by go_simp) ?_
 simp only [nm]
 refine sdk A 32 ((nbF p.y).map bval) (fun w hw => ptF_y ((zad H1.out hw).range) rfl) q100 (zac (zae _)) ?_
 simp only [nm]
 refine zbd _ _ (A + 1) _ 0 32 (by rfl) rfl rfl (fun w => by go_simp) ?_
 simp only [nm]
 refine sdk (A + 1) 32 ((nbF q.y).map bval) (fun w hw => ptF_y ((zad H2.out hw).range) rfl) q100 (zac (zae _)) ?_
 simp only [nm]
 refine zas _ (.bool s) (by rfl) rfl rfl ?_
 simp only [nm]
 refine sdc [.agg ((nbF p.y).map bval).toArray, .agg ((nbF q.y).map bval).toArray, .bool s] (.agg ((nbF (pkF s p.y q.y)).map bval).toArray) Tryz.call88 (fun w hw => cpickn_f w s p.y q.y) ?_
 simp only [nm]
 refine zbd _ _ A _ 0 64 (by rfl) rfl rfl (fun w => by go_simp) ?_
 simp only [nm]
 refine sdk A 64 ((nbF p.z).map bval) (fun w hw => ptF_z ((zad H1.out hw).range) rfl) q100 (zac (zae _)) ?_
 simp only [nm]
 refine zbd _ _ (A + 1) _ 0 64 (by rfl) rfl rfl (fun w => by go_simp) ?_
 simp only [nm]
 refine sdk (A + 1) 64 ((nbF q.z).map bval) (fun w hw => ptF_z ((zad H2.out hw).range) rfl) q100 (zac (zae _)) ?_
 simp only [nm]
 refine zas _ (.bool s) (by rfl) rfl rfl ?_
 simp only [nm]
 refine sdc [.agg ((nbF p.z).map bval).toArray, .agg ((nbF q.z).map bval).toArray, .bool s] (.agg ((nbF (pkF s p.z q.z)).map bval).toArray) Tryz.call88 (fun w hw => cpickn_f w s p.z q.z) ?_
 simp only [nm]
 refine zbd _ _ A _ 0 96 (by rfl) rfl rfl (fun w => by go_simp) ?_
 simp only [nm]
 refine sdk A 96 ((nbF p.t).map bval) (fun w hw => ptF_t ((zad H1.out hw).range) rfl) q100 (zac (zae _)) ?_
 simp only [nm]
 refine zbd _ _ (A + 1) _ 0 96 (by rfl) rfl rfl (fun w => by go_simp) ?_
 simp only [nm]
 refine sdk (A + 1) 96 ((nbF q.t).map bval) (fun w hw => ptF_t ((zad H2.out hw).range) rfl) q100 (zac (zae _)) ?_
 simp only [nm]
 refine zas _ (.bool s) (by rfl) rfl rfl ?_
 simp only [nm]
 refine sdc [.agg ((nbF p.t).map bval).toArray, .agg ((nbF q.t).map bval).toArray, .bool s] (.agg ((nbF (pkF s p.t q.t)).map bval).toArray) Tryz.call88 (fun w hw => cpickn_f w s p.t q.t) ?_
 simp only [nm]
 refine zei _ _ #[(0, .agg ((nbF (pkF s p.x q.x)).map bval).toArray), (1, .agg ((nbF (pkF s p.y q.y)).map bval).toArray), (2, .agg ((nbF (pkF s p.z q.z)).map bval).toArray), (3, .agg ((nbF (pkF s p.t q.t)).map bval).toArray)] (.agg (ptF ⟨pkF s p.x q.x, pkF s p.y q.y, pkF s p.z q.z, pkF s p.t q.t⟩).toArray) (by rfl) rfl (by simp [Act.eval]) (fun w => build_ptF ⟨pkF s p.x q.x, pkF s p.y q.y, pkF s p.z q.z, pkF s p.t q.t⟩ w) ?_
 simp only [nm]
 refine zao (zec (k := 25) _ _ _ _ (A + 1 + 1) (ptF ⟨pkF s p.x q.x, pkF s p.y q.y, pkF s p.z q.z, pkF s p.t q.t⟩) zq rfl (by kernel_rfl) (by kernel_rfl) (by kernel_rfl) rfl rfl rfl rfl H3.out ((zat _).trans zq_length.symm) (zar _) (zcf _) (fun w8 hb8 hg8 => ?_))
 simp only [Act.put]
 go_wp2_with fail
 exact bodyPost_ret (zap (by rfl) _ (A + 1 + 1) _ _ _ (by rfl) hb8 q113 rfl (zar _)) rfl ⟨rfl, zab HE.out hg8 (by have := HAW.out; omega)⟩
theorem cneg_f (w : World) (p : ES) : Calls Tryz.prog 64 #[.agg (ptF p).toArray] w fun e w' => e = .returned (.agg (ptF p.neg).toArray) ∧ Below w.heap.size w w' := by
 have HB := jh (boxes2 w (ptF p) zq 85 85)
 go_enter Tryz.func64, Tryz.ntmps64
 go_upto_region 1 with (fail)
 obtain ⟨H1, H2, HE⟩ := HB.out
 change Code.wp _ _ _ _ (World.alloc (World.alloc w (.cells (ptF p).toArray 85)) (.cells zq.toArray 85))
 generalize (World.alloc (World.alloc w (.cells (ptF p).toArray 85)) (.cells zq.toArray 85)) = wa at *
 obtain ⟨A, hA⟩ : ∃ A, A = w.heap.size := ⟨_, rfl⟩
 have HAW : Hid (w.heap.size ≤ A) := jh (by omega)
 rw [← hA] at H1 H2 ⊢
 have H1 := jh H1
 have H2 := jh H2
 have HE : Hid (Ext w wa) := jh HE
 clear hA HB
 go_wp2_with fail
 refine swf 13 1 13 ?_
 refine zei _ _ #[] (.agg ((nbF 0).map bval).toArray) (by rfl) rfl (by simp [Act.eval]) (fun w => build_nbz w) ?_
 simp only [nm]
 refine zbd _ _ A _ 0 0 (by rfl) rfl rfl (fun w => by go_simp) ?_
 simp only [nm]
 refine sdk A 0 ((nbF p.x).map bval) (fun w hw => ptF_x ((zad H1.out hw).range)) q100 (zac (zae _)) ?_
 simp only [nm]
 refine sdc [.agg ((nbF 0).map bval).toArray, .agg ((nbF p.x).map bval).toArray] (.agg ((nbF (0 - p.x)).map bval).toArray) q142 (fun w hw => fsub_f w (F32.nb _) (F32.nb _)) ?_
 simp only [nm]
 refine zbd _ _ A _ 0 32 (by rfl) rfl rfl (fun w => by go_simp) ?_
 simp only [nm]
 refine sdk A 32 ((nbF p.y).map bval) (fun w hw => ptF_y ((zad H1.out hw).range) rfl) q100 (zac (zae _)) ?_
 simp only [nm]
 refine zbd _ _ A _ 0 64 (by rfl) rfl rfl (fun w => by go_simp) ?_
 simp only [nm]
 refine sdk A 64 ((nbF p.z).map bval) (fun w hw => ptF_z ((zad H1.out hw).range) rfl) q100 (zac (zae _)) ?_
 simp only [nm]
 refine zei _ _ #[] (.agg ((nbF 0).map bval).toArray) (by rfl) rfl (by simp [Act.eval]) (fun w => build_nbz w) ?_
 simp only [nm]
 refine zbd _ _ A _ 0 96 (by rfl) rfl rfl (fun w => by go_simp) ?_
 simp only [nm]
 refine sdk A 96 ((nbF p.t).map bval) (fun w hw => ptF_t ((zad H1.out hw).range) rfl) q100 (zac (zae _)) ?_
 simp only [nm]
 refine sdc [.agg ((nbF 0).map bval).toArray, .agg ((nbF p.t).map bval).toArray] (.agg ((nbF (0 - p.t)).map bval).toArray) q142 (fun w hw => fsub_f w (F32.nb _) (F32.nb _)) ?_
 simp only [nm]
 refine zei _ _ #[(0, .agg ((nbF (0 - p.x)).map bval).toArray), (1, .agg ((nbF p.y).map bval).toArray), (2, .agg ((nbF p.z).map bval).toArray), (3, .agg ((nbF (0 - p.t)).map bval).toArray)] (.agg (ptF ⟨0 - p.x, p.y, p.z, 0 - p.t⟩).toArray) (by rfl) rfl (by simp [Act.eval]) (fun w => build_ptF ⟨0 - p.x, p.y, p.z, 0 - p.t⟩ w) ?_
 simp only [nm]
 refine zao (zec (k := 13) _ _ _ _ (A + 1) (ptF ⟨0 - p.x, p.y, p.z, 0 - p.t⟩) zq rfl (by kernel_rfl) (by kernel_rfl) (by kernel_rfl) rfl rfl rfl rfl H2.out ((zat _).trans zq_length.symm) (zar _) (zcf _) (fun w8 hb8 hg8 => ?_))
 simp only [Act.put]
 go_wp2_with fail
 exact bodyPost_ret (zap (by rfl) _ (A + 1) _ _ _ (by rfl) hb8 q113 rfl (zar _)) rfl ⟨rfl, zab HE.out hg8 (by have := HAW.out; omega)⟩
theorem czero_f (w : World) : Calls Tryz.prog 91 #[] w fun e w' => e = .returned (.agg (ptF esZero).toArray) ∧ Below w.heap.size w w' := by
 have HB := jh (zfo w zq 85)
 go_enter Tryz.func91, Tryz.ntmps91
 go_upto_region 1 with (fail)
 obtain ⟨H1, HE⟩ := HB.out
 change Code.wp _ _ _ _ (w.alloc (.cells zq.toArray 85))
 generalize w.alloc (.cells zq.toArray 85) = wa at *
 obtain ⟨A, hA⟩ : ∃ A, A = w.heap.size := ⟨_, rfl⟩
 have HAW : Hid (w.heap.size ≤ A) := jh (by omega)
 rw [← hA] at H1 ⊢
 have H1 := jh H1
 have HE : Hid (Ext w wa) := jh HE
 clear hA HB
 have HB1 := jh (build_nbo)
 have HB2 := jh (build_esz)
 generalize nbF 1 = one at *
 have HL : Hid ((ptF esZero).length = zq.length) := jh ((zat _).trans zq_length.symm)
 go_wp2_with (first | (refine zbf rfl 23 #[(0, _)] rfl #[(0, .int .u8 1)] (by simp [Act.eval, Act.put]) (.agg (one.map bval).toArray) (HB1.out _) ?_) | (refine zbf rfl 85 #[(1, _), (2, _)] rfl #[(1, .agg (one.map bval).toArray), (2, .agg (one.map bval).toArray)] (by simp [Act.eval, Act.put]) (.agg (ptF esZero).toArray) (HB2.out _) ?_) | (refine ssb A (ptF esZero) H1.out HL.out (zar _) (zcf _) ?_; intro w8 hb8 hg8))
 exact bodyPost_ret (zap (by rfl) _ A _ _ _ (by rfl) hb8 q113 rfl (zar _)) rfl ⟨rfl, zab HE.out hg8 (by have := HAW.out; omega)⟩
