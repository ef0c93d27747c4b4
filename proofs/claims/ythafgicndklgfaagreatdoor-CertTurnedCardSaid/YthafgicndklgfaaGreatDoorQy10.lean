/- Lemmas. -/
import Derived.Test.YthafgicndklgfaaGreatDoorQy08
import Derived.Test.YthafgicndklgfaaGreatDoorQy09
namespace Go.Proofs.YthafgicndklgfaaGreatDoor
set_option linter.unusedVariables false
set_option maxRecDepth 100000
set_option maxHeartbeats 32000000
set_option linter.unusedSimpArgs false
open Go.RowKit
theorem u8_andnot (b : UInt8) : bits .andNot .u8 (b.toNat : Int) 128 = ((b &&& 127).toNat : Int) := by
 have hh : ∀ n : Fin 256, bits .andNot .u8 ((UInt8.ofNat n.val).toNat : Int) 128 = (((UInt8.ofNat n.val) &&& 127).toNat : Int) := by decide +kernel
 have := hh ⟨b.toNat, b.toNat_lt⟩
 simpa using this
theorem u8_and128 (b : UInt8) : bits .and .u8 (b.toNat : Int) 128 = ((128 * (b.toNat / 128) : Nat) : Int) := by
 have hh : ∀ n : Fin 256, bits .and .u8 ((UInt8.ofNat n.val).toNat : Int) 128 = ((128 * ((UInt8.ofNat n.val).toNat / 128) : Nat) : Int) := by decide +kernel
 have := hh ⟨b.toNat, b.toNat_lt⟩
 simpa using this
theorem ccanon_f (f : Fp) (w : World) : Calls Tryz.prog 82 #[.agg ((nbF f).map bval).toArray] w fun e w' => e = .returned (.agg ((nbF f).map bval).toArray) ∧ Below w.heap.size w w' := by
 have h := Canon_num (nbF f) w (zae f)
 rw [leN_nbF, nb_nbF, zdm] at h
 exact h
theorem crv_nb_length (x : Int) : (nb x).length = 32 := zav _ _
theorem croot_as {a b : Fp} {k : Bool} (w : World) (h : a = b) (hk : rtB b = k) : Calls Tryz.prog 86 #[.agg ((nbF a).map bval).toArray] w fun e w' => e = .returned (.tuple #[.agg ((nbF (rtX b)).map bval).toArray, .bool k]) ∧ Below w.heap.size w w' := by
 subst h hk
 exact croot_f w a
theorem bool_lt2 {k : Nat} (h : k < 2) : ∃ b : Bool, k = b.toNat := by
 rcases (by omega : k = 0 ∨ k = 1) with rfl | rfl
 ·exact ⟨false, rfl⟩
 ·exact ⟨true, rfl⟩
theorem cdecoded_f (w : World) (n : List UInt8) (hn : n.length = 32) (hG : GlobC w) : Calls Tryz.prog 49 #[.agg (n.map bval).toArray] w fun e w' => e = .returned (.tuple #[.agg (ptF (decE n)).toArray, .bool (mayB n)]) ∧ Below w.heap.size w w' := by
 have HNL := jh hn
 clear hn
 have HGC := jh hG
 clear hG
 have HB := jh (boxes2 w (n.map bval) zq 23 85)
 go_enter Tryz.func49, Tryz.ntmps49
 go_upto_region 1 with (fail)
 obtain ⟨H1, H2, HE⟩ := HB.out
 change Code.wp _ _ _ _ (World.alloc (World.alloc w (.cells (n.map bval).toArray 23)) (.cells zq.toArray 85))
 generalize (World.alloc (World.alloc w (.cells (n.map bval).toArray 23)) (.cells zq.toArray 85)) = wa at *
 obtain ⟨A, hA⟩ : ∃ A, A = w.heap.size := ⟨_, rfl⟩
 have HAW : Hid (w.heap.size ≤ A) := jh (by omega)
 rw [← hA] at H1 H2 ⊢
 have H1 := jh H1
 have H2 := jh H2
 have HE : Hid (Ext w wa) := jh HE
 clear hA HB
 obtain ⟨yl, hyl⟩ : ∃ yl, yl = yB n := ⟨_, rfl⟩
 obtain ⟨b, hb⟩ := bool_lt2 (bitN_lt n)
 have HYL : Hid (yl.length = 32) := jh (by rw [hyl]; exact maskB_length HNL.out)
 have HX1 : Hid ((n.map bval).set 31 (.int .u8 (bits .andNot .u8 ((n.getD 31 0).toNat : Int) 128)) = yl.map bval) := jh (by rw [u8_andnot, u8_set, hyl]; rfl)
 have ha := u8_and128 (n.getD 31 0)
 rw [show (n.getD 31 0).toNat / 128 = b.toNat from hb] at ha
 have HYE := jh hyl
 have HBE := jh hb
 clear hyl hb
 have c1 := H1.out.cell 31
 rw [zbg (by rw [HNL.out]; omega)] at c1
 have HQ1 := jh (zbg (l := n) (i := 31) (by rw [HNL.out]; omega))
 generalize ((n.getD 31 0).toNat : Int) = q1 at *
 have hne : (((128 * b.toNat : Nat) : Int) != 0) = b := by cases b <;> rfl
 generalize ((128 * b.toNat : Nat) : Int) = qb at *
 go_upto_region 2 with (fail)
 clear ha hne
 have HZ := jh (Blk.made wa (ints .u8 (List.replicate 32 0)) 23)
 have HEA := jh (Ext.alloc wa (.cells (ints .u8 (List.replicate 32 0)).toArray 23))
 have HL : Hid ((n.map bval).length = (ints .u8 (List.replicate 32 0)).length) := jh (by rw [q101, HNL.out, zaa]; rfl)
 have HLA := jh H2.out.lt
 go_upto_region 3 with (first | (refine slb A H1.out q100 (zac HNL.out) ?_) | (refine ssb wa.heap.size (n.map bval) HZ.out HL.out (zac HNL.out) (zaf _) ?_; intro w7 hb hg))
 have HX := jh (zab HEA.out hg (q102 _))
 obtain ⟨py, hT⟩ : ∃ T, T = wa.heap.size := ⟨_, rfl⟩
 rw [← hT] at hb HLA ⊢
 clear hT
 have H2 := xb H2 HX.out
 have HE := xt HE HX.out
 have HY := jh hb
 clear hb hg HX HZ HEA HL c1 H1
 have c1 := HY.out.cell 31
 have HQ1 : (n.map bval)[31]? = some (.int .u8 q1) := HQ1.out
 rw [HQ1] at c1
 have f1 := HY.out.free 31
 clear HQ1
 go_upto_region 4 with (fail)
 have HM := jh (HY.out.set 31 (.int .u8 (bits .andNot .u8 q1 128)))
 rw [HX1.out] at HM
 have H2 := jh (H2.out.far (a := ⟨py, 31, none⟩) (by have := HLA.out; simp; omega) (.int .u8 (bits .andNot .u8 q1 128)))
 have HE := jh (Below.setCell HE.out (p := ⟨py, 31, none⟩) (by have := HLA.out; have := HAW.out; simp; omega) (.int .u8 (bits .andNot .u8 q1 128)))
 generalize bits .andNot .u8 q1 128 = v1 at *
 generalize w7.setCell ⟨py, 31, none⟩ (.int .u8 v1) = wb at *
 have HE : Hid (Ext w wb) := jh HE.out
 clear c1 f1 HX1 HY
 by_cases hp : leN yl < pN
 ·obtain ⟨y, hy⟩ : ∃ y, yl = nbF y := ⟨fp ((leN yl : Nat) : Int), (nbc_self HYL.out hp).symm⟩
  subst hy
  clear hp HYL
  have HCN := jh (ccanon_f y)
  go_wp2_with fail
  refine zbb (by kernel_rfl) (by kernel_rfl) ?_
  refine sdk py 0 ((nbF y).map bval) (fun w hw => (zad HM.out hw).range) q100 (zac (zae _)) ?_
  simp only [nm]
  refine sdc [.agg ((nbF y).map bval).toArray] (.agg ((nbF y).map bval).toArray) Tryz.call82 (fun w hw => HCN.out w) ?_
  simp only [nm]
  refine sdk py 0 ((nbF y).map bval) (fun w hw => (zad HM.out hw).range) q100 (zac (zae _)) ?_
  simp only [nm]
  refine det_eql .neq _ _ _ _ _ 32 _ (nbF y) (nbF y) false (by rfl) rfl (Or.inr ⟨rfl, decide_eq_true rfl⟩) q100 q111 zch zby zcb rfl rfl (zae _) (zae _) ?_
  simp only [nm]
  refine zao (fun wc hwc => ?_)
  have H2 := xb H2 hwc
  have HM := xb HM hwc
  have HE := xt HE hwc
  clear hwc HCN
  go_wp2_with (first | (refine zbf rfl 23 #[(0, _)] rfl #[(0, .int .u8 1)] (by simp [Act.eval, Act.put]) (.agg ((nbF 1).map bval).toArray) (build_nbo _) ?_) | (refine wpList_load_mid rfl _ _ rfl py 0 rfl _ _ (HM.out.range) q100 rfl (zac (zae _)) ?_))
  refine (fmul_f _ (F32.nb y) (F32.nb y)).mono ?_
  rintro e w5 ⟨rfl, hb⟩
  have H2 := xb H2 hb
  have HM := xb HM hb
  have HE := xt HE hb
  clear hb
  obtain ⟨vs, hvs⟩ : ∃ vs, vs = y * y := ⟨_, rfl⟩
  rw [← hvs]
  have HVS := jh hvs
  clear hvs
  have HB2 := jh (boxes2 w5 (ints .u8 (List.replicate 32 0)) (ints .u8 (List.replicate 32 0)) 23 23)
  have HL1 : Hid (((nbF 1).map bval).length = (ints .u8 (List.replicate 32 0)).length) := jh (by rw [q101, zae]; rfl)
  have HL2 : Hid (((nbF vs).map bval).length = (ints .u8 (List.replicate 32 0)).length) := jh (by rw [q101, zae]; rfl)
  go_upto_region 7 with (first | (refine ssb w5.heap.size ((nbF 1).map bval) HB2.out.1 HL1.out (zac (zae _)) (zaf _) ?_; intro w6 hs1 hg1) | (refine ssb (w5.heap.size + 1) ((nbF vs).map bval) (HB2.out.2.1.grown hg1 (by simp)) HL2.out (zac (zae _)) (zaf _) ?_; intro w7 hs2 hg2))
  have HX := jh (zab (zab HB2.out.2.2 hg1 (q102 _)) hg2 (Nat.le_succ _))
  have HO1 := jh (hs1.grown hg2 (by simp))
  have HS2 := jh hs2
  obtain ⟨po, hT⟩ : ∃ T, T = w5.heap.size := ⟨_, rfl⟩
  rw [← hT] at HO1 HS2 ⊢
  clear hT
  have H2 := xb H2 HX.out
  have HM := xb HM HX.out
  have HE := xt HE HX.out
  clear hs1 hs2 hg1 hg2 HX HB2 HL1 HL2
  generalize w7 = wd at *
  go_wp2_with fail
  refine swf 6 2 7 ?_
  refine sdk 3 0 ((nbF dF).map bval) (fun w hw => HGC.out.ext (HE.out.trans hw)) q100 (zac (zae _)) ?_
  simp only [nm]
  refine sdk (po + 1) 0 ((nbF vs).map bval) (fun w hw => (zad HS2.out hw).range) q100 (zac (zae _)) ?_
  simp only [nm]
  refine sdc [.agg ((nbF dF).map bval).toArray, .agg ((nbF vs).map bval).toArray] (.agg ((nbF (dF * vs)).map bval).toArray) q143 (fun w hw => fmul_f w (F32.nb _) (F32.nb _)) ?_
  simp only [nm]
  refine sdk po 0 ((nbF 1).map bval) (fun w hw => (zad HO1.out hw).range) q100 (zac (zae _)) ?_
  simp only [nm]
  refine sdc [.agg ((nbF (dF * vs)).map bval).toArray, .agg ((nbF 1).map bval).toArray] (.agg ((nbF ((dF * vs) + 1)).map bval).toArray) Tryz.call85 (fun w hw => fadd_f w (F32.nb _) (F32.nb _)) ?_
  simp only [nm]
  refine sdc [.agg ((nbF ((dF * vs) + 1)).map bval).toArray] (.agg ((nbF (fi ((dF * vs) + 1))).map bval).toArray) Tryz.call84 (fun w hw => finv_f w (F32.nb _)) ?_
  simp only [nm]
  refine zao (zep (k := 6) _ 8 (.tmp 34) (ints .u8 (List.replicate 32 0)) ((nbF (fi ((dF * vs) + 1))).map bval) rfl rfl (by kernel_rfl) (by kernel_rfl) (by kernel_rfl) (by kernel_rfl) (by kernel_rfl) rfl rfl rfl rfl (fun w => by rw [q109]; rfl) rfl (by simp) (fun p => rfl) (by rw [q101, zae]; rfl) (zac (zae _)) (zaf _) (fun pw ww hp hb he => ?_))
  try simp only [nm]
  have H2 := xb H2 he
  have HM := xb HM he
  have HO1 := xb HO1 he
  have HS2 := xb HS2 he
  have HE := xt HE he
  have HPw := jh hp
  clear he hp
  obtain ⟨vw, hq⟩ : ∃ kk, kk = (fi ((dF * vs) + 1)) := ⟨_, rfl⟩
  rw [← hq] at hb
  have HQw := jh hq
  clear hq
  have HVw := jh hb
  clear hb
  have HRD : Hid ((vs - 1) * vw = rad y) := jh (by rw [HQw.out, HVS.out]; rfl)
  obtain ⟨ok, hok⟩ : ∃ ok, rtB (rad y) = ok := ⟨_, rfl⟩
  have HOK := jh hok
  clear hok
  go_wp2_with fail
  have H2w := jh H2.out.lt
  have HMw := jh HM.out.lt
  have HOw := jh HO1.out.lt
  go_cut [9, 10] from 35 to 43 (fun u9 u10 wq => ∃ gx, u9 = .pointer (some ⟨gx, 0, none⟩) ∧ u10 = .bool ok ∧ ww.heap.size ≤ gx ∧ Blk wq gx ((nbF (rtX (rad y))).map bval) 23 ∧ Ext ww wq)
  case first =>
   have B0 : Ext ww ww.drew := Ext.drew _
   refine wp_region_held_drew (S := fun w' => Ext ww w') (by kernel_rfl) B0 (fun hW => ?_)
   refine tke 0 (.agg ((nbF vs).map bval).toArray) rfl (sld (po + 1) 0 (fun w h => zah HS2.out h) q100 (zac (zae _))) hW ?_
   simp only [nm]
   refine tke 1 (.agg ((nbF 1).map bval).toArray) rfl (sld po 0 (fun w h => zah HO1.out h) q100 (zac (zae _))) hW ?_
   simp only [nm]
   refine tke 3 (.agg ((nbF vw).map bval).toArray) rfl (sld pw 0 (fun w h => zah HVw.out h) q100 (zac (zae _))) hW ?_
   simp only [nm]
   refine Fl.go (f := 9) (d := 9) (zs := (ints .u8 (List.replicate 32 0))) (T := 23) (B := (ww).heap.size) ?_ hW
   clear hW
   refine Fl.step 2 rfl rfl rfl rfl rfl (fun w => by rw [q109]; rfl) (fun _ _ h1 h2 => h1.trans h2) (fun _ h => h.size) (fun z1 u K hz1 hSz hK => ?_)
   have NZ1 : Ext ww z1 := B0.trans hz1
   clear hSz
   go_simp
   refine (fsub_f _ (F32.nb vs) (F32.nb 1)).mono ?_
   rintro e m1 ⟨rfl, b1⟩
   have N1 : Ext ww m1 := NZ1.trans b1
   refine hK.out (.agg ((nbF (vs - 1)).map bval).toArray) _ b1 N1 ?_
   clear hK K u
   try simp only [nm]
   refine Fl.step 4 rfl rfl rfl rfl rfl (fun w => by rw [q109]; rfl) (fun _ _ h1 h2 => h1.trans h2) (fun _ h => h.size) (fun z2 u K hz2 hSz hK => ?_)
   have NZ2 : Ext ww z2 := N1.trans hz2
   clear hSz
   go_simp
   refine (fmul_f _ (F32.nb (vs - 1)) (F32.nb vw)).mono ?_
   rintro e m2 ⟨rfl, b2⟩
   have N2 : Ext ww m2 := NZ2.trans b2
   refine hK.out (.agg ((nbF ((vs - 1) * vw)).map bval).toArray) _ b2 N2 ?_
   clear hK K u
   try simp only [nm]
   refine Fl.step 5 rfl rfl rfl rfl rfl (fun w => by rw [q109]; rfl) (fun _ _ h1 h2 => h1.trans h2) (fun _ h => h.size) (fun z3 u K hz3 hSz hK => ?_)
   have NZ3 : Ext ww z3 := N2.trans hz3
   clear hSz
   go_simp
   refine (croot_as _ HRD.out HOK.out).mono ?_
   rintro e m3 ⟨rfl, b3⟩
   have N3 : Ext ww m3 := NZ3.trans b3
   refine hK.out (.tuple #[.agg ((nbF (rtX (rad y))).map bval).toArray, .bool ok]) _ b3 N3 ?_
   clear hK K u
   try simp only [nm]
   refine Fl.take 6 (.tuple #[.agg ((nbF (rtX (rad y))).map bval).toArray, .bool ok]) rfl (fun u => zbm _ (.tuple #[.agg ((nbF (rtX (rad y))).map bval).toArray, .bool ok]) (by rfl) rfl rfl) ?_
   simp only [nm]
   refine Fl.take 7 (.agg ((nbF (rtX (rad y))).map bval).toArray) rfl (fun u => zbj (.agg ((nbF (rtX (rad y))).map bval).toArray) (by rfl) (fun w _ => by go_simp)) ?_
   simp only [nm]
   refine Fl.take 8 (.bool ok) rfl (fun u => zbj (.bool ok) (by rfl) (fun w _ => by go_simp)) ?_
   simp only [nm]
   refine Fl.last rfl rfl rfl rfl (fun w => by rw [q109]; rfl) (fun _ _ h1 h2 => h1.trans h2) (fun _ h => h.size) (fun m4 g4 b4 hW l4 z4 => ?_)
   try simp only [nm]
   have N4 : Ext ww m4 := N3.trans b4
   refine rdy 10 rfl fun K hK => ?_
   refine zbn (by rfl) ?_
   refine zak _ _ _ rfl g4 ((nbF (rtX (rad y))).map bval) rfl rfl _ _ z4 (by rw [q101, (zae _)]; rfl) (zac ((zae _))) (zaf _) ?_
   intro m5 hb5 hg5
   have N5 : Ext ww m5 := zab N4 hg5 l4
   refine hK.out _ _ N5 (fun hW => ?_)
   clear hK K
   try simp only [nm]
   refine rdy 11 rfl fun K hK => ?_
   go_simp
   refine hK.out _ _ N5 (fun hW => ?_)
   clear hK K
   try simp only [nm]
   refine dne ?_
   go_wp2_with fail
   go_meet
   exact ⟨_, rfl, rfl, l4, hb5, N5⟩
  case rest =>
   obtain ⟨px, rfl, rfl, hp0, hb0, hX⟩ := hcut
   have H2 := xb H2 hX
   have HM := xb HM hX
   have HO1 := xb HO1 hX
   have HS2 := xb HS2 hX
   have HVw := xb HVw hX
   have HE := xt HE hX
   have HPx := jh hp0
   clear hX hp0
   generalize wc = wx at *
   have HVx := jh hb0
   clear hb0
   obtain ⟨vx, hvx⟩ : ∃ k, rtX (rad y) = k := ⟨_, rfl⟩
   rw [hvx] at HVx
   have HXX := jh hvx
   clear hvx
   have HYB : Hid (yB n = nbF y) := jh HYE.out.symm
   cases ok
   ·have HNO := jh (dec_none_root HNL.out HYB.out HOK.out)
    have HL : Hid ((ptF ⟨0, 0, 0, 0⟩).length = zq.length) := jh ((zat _).trans zq_length.symm)
    go_wp2_with (first | (refine zbf rfl 85 #[] rfl #[] (by simp) (.agg (ptF ⟨0, 0, 0, 0⟩).toArray) (build_none _) ?_) | (refine ssb (A + 1) (ptF ⟨0, 0, 0, 0⟩) H2.out HL.out (zar _) (zcf _) ?_; intro w9 hb9 hg9))
    refine bodyPost_ret (zai rfl _ (A + 1) _ _ _ rfl hb9 q113 rfl (zar _)) rfl ?_
    exact ⟨by rw [HNO.out.1, HNO.out.2]; rfl, zab HE.out hg9 (by have := HAW.out; omega)⟩
   ·have HLX : Hid (A + 1 < px ∧ py < px ∧ po < px) := jh ⟨q114 H2w.out HPx.out, q114 HMw.out HPx.out, q114 HOw.out HPx.out⟩
    cases b
    ·have HSM := jh (dec_some HNL.out (b := false) HYB.out HOK.out HBE.out (fun hh => by cases hh.2))
     go_upto_region 11 with (fail)
     refine swf 6 1 6 ?_
     refine sdk px 0 ((nbF vx).map bval) (fun w hw => (zad HVx.out hw).range) q100 (zac (zae _)) ?_
     simp only [nm]
     refine zei _ _ #[] (.agg ((nbF 0).map bval).toArray) (by rfl) rfl (by simp [Act.eval]) (fun w => build_nbz w) ?_
     simp only [nm]
     refine sdk px 0 ((nbF vx).map bval) (fun w hw => (zad HVx.out hw).range) q100 (zac (zae _)) ?_
     simp only [nm]
     refine sdc [.agg ((nbF 0).map bval).toArray, .agg ((nbF vx).map bval).toArray] (.agg ((nbF (0 - vx)).map bval).toArray) q142 (fun w hw => fsub_f w (F32.nb _) (F32.nb _)) ?_
     simp only [nm]
     refine zas _ (.bool false) (by rfl) rfl rfl ?_
     simp only [nm]
     refine sdc [.agg ((nbF vx).map bval).toArray, .agg ((nbF (0 - vx)).map bval).toArray, .bool false] (.agg ((nbF (pkF false vx (0 - vx))).map bval).toArray) Tryz.call88 (fun w hw => cpickn_f w false vx (0 - vx)) ?_
     simp only [nm]
     refine zao (zec (k := 6) _ _ _ _ px ((nbF (pkF false vx (0 - vx))).map bval) ((nbF vx).map bval) rfl (by kernel_rfl) (by kernel_rfl) (by kernel_rfl) rfl rfl rfl rfl HVx.out (by rw [q101, q101, zae, zae]) (zac (zae _)) (zaf _) (fun w8 hb8 hg8 => ?_))
     obtain ⟨vq, hvq⟩ : ∃ k, k = pkF false vx (0 - vx) := ⟨_, rfl⟩
     rw [← hvq] at hb8
     have HVQ := jh hvq
     clear hvq
     simp only [Act.put]
     have H2 := jh (H2.out.grown hg8 (by have := HLX.out; simp; omega))
     have HM := jh (HM.out.grown hg8 (by have := HLX.out; simp; omega))
     have HO1 := jh (HO1.out.grown hg8 (by have := HLX.out; simp; omega))
     have HE := jh (zab HE.out hg8 (by have := HLX.out; have := HAW.out; omega))
     have HVx := jh hb8
     clear hb8 hg8
     generalize w8 = w9 at *
     go_wp2_with fail
     refine swf 7 2 7 ?_
     refine sdk px 0 ((nbF vq).map bval) (fun w hw => (zad HVx.out hw).range) q100 (zac (zae _)) ?_
     simp only [nm]
     refine sdk py 0 ((nbF y).map bval) (fun w hw => (zad HM.out hw).range) q100 (zac (zae _)) ?_
     simp only [nm]
     refine sdk po 0 ((nbF 1).map bval) (fun w hw => (zad HO1.out hw).range) q100 (zac (zae _)) ?_
     simp only [nm]
     refine sdk px 0 ((nbF vq).map bval) (fun w hw => (zad HVx.out hw).range) q100 (zac (zae _)) ?_
     simp only [nm]
     refine sdk py 0 ((nbF y).map bval) (fun w hw => (zad HM.out hw).range) q100 (zac (zae _)) ?_
     simp only [nm]
     refine sdc [.agg ((nbF vq).map bval).toArray, .agg ((nbF y).map bval).toArray] (.agg ((nbF (vq * y)).map bval).toArray) q143 (fun w hw => fmul_f w (F32.nb _) (F32.nb _)) ?_
     simp only [nm]
     refine zei _ _ #[(0, .agg ((nbF vq).map bval).toArray), (1, .agg ((nbF y).map bval).toArray), (2, .agg ((nbF 1).map bval).toArray), (3, .agg ((nbF (vq * y)).map bval).toArray)] (.agg (ptF ⟨vq, y, 1, vq * y⟩).toArray) (by rfl) rfl (by simp [Act.eval]) (fun w => build_ptF ⟨vq, y, 1, vq * y⟩ w) ?_
     simp only [nm]
     refine zao (end_set_assign (k := 7) _ _ _ _ _ 3 (.bool true) (A + 1) (ptF ⟨vq, y, 1, vq * y⟩) zq rfl rfl (by kernel_rfl) (by kernel_rfl) (by kernel_rfl) (by kernel_rfl) rfl rfl rfl rfl rfl rfl H2.out ((zat _).trans zq_length.symm) (zar _) (zcf _) rfl rfl rfl (fun w10 hb10 hg10 => ?_))
     simp only [Act.put]
     go_wp2_with fail
     refine bodyPost_ret (zai rfl _ (A + 1) _ _ _ rfl hb10 q113 rfl (zar _)) rfl ?_
     exact ⟨by rw [HSM.out.1, HSM.out.2, HXX.out, ← HVQ.out]; rfl, zab HE.out hg10 (by have := HAW.out; omega)⟩
    ·by_cases h0 : vx = 0
     ·have HQ0 : Hid (decide (nbF vx = zer) = true) := jh (decide_eq_true (by rw [h0, nbF_zero]))
      have HNO := jh (dec_none_bit HNL.out HYB.out HOK.out (by rw [HXX.out]; exact h0) HBE.out)
      clear h0
      go_upto_region 10 with (first | (refine wpList_eql (by rfl) _ _ _ _ _ _ 32 _ (nbF vx) zer true rfl (Or.inl ⟨rfl, HQ0.out⟩) q100 q111 zch zby zcb rfl rfl (zae _) zdx ?_) | (refine zbo (by rfl) _ _ rfl px rfl _ _ _ _ HVx.out q100 (zac (zae _)) ?_))
      have HL : Hid ((ptF ⟨0, 0, 0, 0⟩).length = zq.length) := jh ((zat _).trans zq_length.symm)
      go_wp2_with (first | (refine zbf rfl 85 #[] rfl #[] (by simp) (.agg (ptF ⟨0, 0, 0, 0⟩).toArray) (build_none _) ?_) | (refine ssb (A + 1) (ptF ⟨0, 0, 0, 0⟩) H2.out HL.out (zar _) (zcf _) ?_; intro w9 hb9 hg9))
      refine bodyPost_ret (zai rfl _ (A + 1) _ _ _ rfl hb9 q113 rfl (zar _)) rfl ?_
      exact ⟨by rw [HNO.out.1, HNO.out.2]; rfl, zab HE.out hg9 (by have := HAW.out; omega)⟩
     ·have HQ0 : Hid (decide (nbF vx = zer) = false) := jh (decide_eq_false (fun h => h0 (nbF_inj (h.trans nbF_zero.symm))))
      have HSM := jh (dec_some HNL.out (b := true) HYB.out HOK.out HBE.out (fun hh => h0 (by rw [← HXX.out]; exact hh.1)))
      clear h0
      go_upto_region 11 with (first | (refine wpList_eql (by rfl) _ _ _ _ _ _ 32 _ (nbF vx) zer false rfl (Or.inl ⟨rfl, HQ0.out⟩) q100 q111 zch zby zcb rfl rfl (zae _) zdx ?_) | (refine zbo (by rfl) _ _ rfl px rfl _ _ _ _ HVx.out q100 (zac (zae _)) ?_))
      refine swf 6 1 6 ?_
      refine sdk px 0 ((nbF vx).map bval) (fun w hw => (zad HVx.out hw).range) q100 (zac (zae _)) ?_
      simp only [nm]
      refine zei _ _ #[] (.agg ((nbF 0).map bval).toArray) (by rfl) rfl (by simp [Act.eval]) (fun w => build_nbz w) ?_
      simp only [nm]
      refine sdk px 0 ((nbF vx).map bval) (fun w hw => (zad HVx.out hw).range) q100 (zac (zae _)) ?_
      simp only [nm]
      refine sdc [.agg ((nbF 0).map bval).toArray, .agg ((nbF vx).map bval).toArray] (.agg ((nbF (0 - vx)).map bval).toArray) q142 (fun w hw => fsub_f w (F32.nb _) (F32.nb _)) ?_
      simp only [nm]
      refine zas _ (.bool true) (by rfl) rfl rfl ?_
      simp only [nm]
      refine sdc [.agg ((nbF vx).map bval).toArray, .agg ((nbF (0 - vx)).map bval).toArray, .bool true] (.agg ((nbF (pkF true vx (0 - vx))).map bval).toArray) Tryz.call88 (fun w hw => cpickn_f w true vx (0 - vx)) ?_
      simp only [nm]
      refine zao (zec (k := 6) _ _ _ _ px ((nbF (pkF true vx (0 - vx))).map bval) ((nbF vx).map bval) rfl (by kernel_rfl) (by kernel_rfl) (by kernel_rfl) rfl rfl rfl rfl HVx.out (by rw [q101, q101, zae, zae]) (zac (zae _)) (zaf _) (fun w8 hb8 hg8 => ?_))
      obtain ⟨vq, hvq⟩ : ∃ k, k = pkF true vx (0 - vx) := ⟨_, rfl⟩
      rw [← hvq] at hb8
      have HVQ := jh hvq
      clear hvq
      simp only [Act.put]
      have H2 := jh (H2.out.grown hg8 (by have := HLX.out; simp; omega))
      have HM := jh (HM.out.grown hg8 (by have := HLX.out; simp; omega))
      have HO1 := jh (HO1.out.grown hg8 (by have := HLX.out; simp; omega))
      have HE := jh (zab HE.out hg8 (by have := HLX.out; have := HAW.out; omega))
      have HVx := jh hb8
      clear hb8 hg8
      generalize w8 = w9 at *
      go_wp2_with fail
      refine swf 7 2 7 ?_
      refine sdk px 0 ((nbF vq).map bval) (fun w hw => (zad HVx.out hw).range) q100 (zac (zae _)) ?_
      simp only [nm]
      refine sdk py 0 ((nbF y).map bval) (fun w hw => (zad HM.out hw).range) q100 (zac (zae _)) ?_
      simp only [nm]
      refine sdk po 0 ((nbF 1).map bval) (fun w hw => (zad HO1.out hw).range) q100 (zac (zae _)) ?_
      simp only [nm]
      refine sdk px 0 ((nbF vq).map bval) (fun w hw => (zad HVx.out hw).range) q100 (zac (zae _)) ?_
      simp only [nm]
      refine sdk py 0 ((nbF y).map bval) (fun w hw => (zad HM.out hw).range) q100 (zac (zae _)) ?_
      simp only [nm]
      refine sdc [.agg ((nbF vq).map bval).toArray, .agg ((nbF y).map bval).toArray] (.agg ((nbF (vq * y)).map bval).toArray) q143 (fun w hw => fmul_f w (F32.nb _) (F32.nb _)) ?_
      simp only [nm]
      refine zei _ _ #[(0, .agg ((nbF vq).map bval).toArray), (1, .agg ((nbF y).map bval).toArray), (2, .agg ((nbF 1).map bval).toArray), (3, .agg ((nbF (vq * y)).map bval).toArray)] (.agg (ptF ⟨vq, y, 1, vq * y⟩).toArray) (by rfl) rfl (by simp [Act.eval]) (fun w => build_ptF ⟨vq, y, 1, vq * y⟩ w) ?_
      simp only [nm]
      refine zao (end_set_assign (k := 7) _ _ _ _ _ 3 (.bool true) (A + 1) (ptF ⟨vq, y, 1, vq * y⟩) zq rfl rfl (by kernel_rfl) (by kernel_rfl) (by kernel_rfl) (by kernel_rfl) rfl rfl rfl rfl rfl rfl H2.out ((zat _).trans zq_length.symm) (zar _) (zcf _) rfl rfl rfl (fun w10 hb10 hg10 => ?_))
      simp only [Act.put]
      go_wp2_with fail
      refine bodyPost_ret (zai rfl _ (A + 1) _ _ _ rfl hb10 q113 rfl (zar _)) rfl ?_
      exact ⟨by rw [HSM.out.1, HSM.out.2, HXX.out, ← HVQ.out]; rfl, zab HE.out hg10 (by have := HAW.out; omega)⟩
 ·have HNO := jh (dec_none_y HNL.out (by rw [← HYE.out]; omega))
  have HNC := jh (nbc_not (l := yl) (by omega))
  clear hp
  have HCN := jh (fun w => Canon_num yl w HYL.out)
  go_wp2_with fail
  refine zbb (by kernel_rfl) (by kernel_rfl) ?_
  refine sdk py 0 (yl.map bval) (fun w hw => (zad HM.out hw).range) q100 (zac HYL.out) ?_
  simp only [nm]
  refine sdc [.agg (yl.map bval).toArray] (.agg ((nb ((leN yl : Nat) : Int)).map bval).toArray) Tryz.call82 (fun w hw => HCN.out w) ?_
  simp only [nm]
  refine sdk py 0 (yl.map bval) (fun w hw => (zad HM.out hw).range) q100 (zac HYL.out) ?_
  simp only [nm]
  refine det_eql .neq _ _ _ _ _ 32 _ (nb ((leN yl : Nat) : Int)) (yl) true (by rfl) rfl (Or.inr ⟨rfl, decide_eq_false HNC.out⟩) q100 q111 zch zby zcb rfl rfl (crv_nb_length _) (HYL.out) ?_
  simp only [nm]
  refine zao (fun wc hwc => ?_)
  have H2 := xb H2 hwc
  have HM := xb HM hwc
  have HE := xt HE hwc
  clear hwc HCN
  have HL : Hid ((ptF ⟨0, 0, 0, 0⟩).length = zq.length) := jh ((zat _).trans zq_length.symm)
  go_wp2_with (first | (refine zbf rfl 85 #[] rfl #[] (by simp) (.agg (ptF ⟨0, 0, 0, 0⟩).toArray) (build_none _) ?_) | (refine ssb (A + 1) (ptF ⟨0, 0, 0, 0⟩) H2.out HL.out (zar _) (zcf _) ?_; intro w9 hb9 hg9))
  refine bodyPost_ret (zai rfl _ (A + 1) _ _ _ rfl hb9 q113 rfl (zar _)) rfl ?_
  exact ⟨by rw [HNO.out.1, HNO.out.2]; rfl, zab HE.out hg9 (by have := HAW.out; omega)⟩
