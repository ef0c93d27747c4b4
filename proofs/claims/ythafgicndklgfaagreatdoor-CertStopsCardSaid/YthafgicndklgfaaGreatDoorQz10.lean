/- Texts that belong together, one behind the other. -/
import Derived.Test.YthafgicndklgfaaGreatDoorQz08
import Derived.Test.YthafgicndklgfaaGreatDoorQz09
namespace Go.Proofs.YthafgicndklgfaaGreatDoor
set_option linter.unusedVariables false
set_option maxRecDepth 100000
set_option maxHeartbeats 32000000
set_option linter.unusedSimpArgs false
open Go.RowKit
theorem u8_andnot (b : UInt8) : bits .andNot .u8 (b.toNat : Int) 128 = ((b &&& 127).toNat : Int) := by
 have hh : ∀ n : Fin 256, bits .andNot .u8 ((UInt8.ofNat n.val).toNat : Int) 128 = (((UInt8.ofNat n.val) &&& 127).toNat : Int) := by decide +kernel
 have := hh ⟨b.toNat, b.toNat_lt⟩
 simpa using this
theorem u8_and128 (b : UInt8) : bits .and .u8 (b.toNat : Int) 128 = ((128 * (b.toNat / 128) : Nat) : Int) := by
 have hh : ∀ n : Fin 256, bits .and .u8 ((UInt8.ofNat n.val).toNat : Int) 128 = ((128 * ((UInt8.ofNat n.val).toNat / 128) : Nat) : Int) := by decide +kernel
 have := hh ⟨b.toNat, b.toNat_lt⟩
 simpa using this
theorem ccanon_f (f : Fp) (w : World) : Calls Tryz.prog 82 #[.agg ((nbF f).map bval).toArray] w fun e w' => e = .returned (.agg ((nbF f).map bval).toArray) ∧ Below w.heap.size w w' := by
 have h := Canon_num (nbF f) w (zag f)
 rw [leN_nbF, nb_nbF, zdu] at h
 exact h
theorem crv_nb_length (x : Int) : (nb x).length = 32 := zbf _ _
theorem croot_as {a b : Fp} {k : Bool} (w : World) (h : a = b) (hk : rtB b = k) : Calls Tryz.prog 86 #[.agg ((nbF a).map bval).toArray] w fun e w' => e = .returned (.tuple #[.agg ((nbF (rtX b)).map bval).toArray, .bool k]) ∧ Below w.heap.size w w' := by
 subst h hk
 exact croot_f w a
theorem bool_lt2 {k : Nat} (h : k < 2) : ∃ b : Bool, k = b.toNat := by
 rcases (by omega : k = 0 ∨ k = 1) with rfl | rfl
 ·exact ⟨false, rfl⟩
 ·exact ⟨true, rfl⟩
theorem cdecoded_f (w : World) (n : List UInt8) (hn : n.length = 32) (hG : GlobC w) : Calls Tryz.prog 49 #[.agg (n.map bval).toArray] w fun e w' => e = .returned (.tuple #[.agg (ptF (decE n)).toArray, .bool (mayB n)]) ∧ Below w.heap.size w w' := by
 have HNL := jh hn
 clear hn
 have HGC := jh hG
 clear hG
 have HB := jh (boxes2 w (n.map bval) zq 23 85)
 go_enter Tryz.func49, Tryz.ntmps49
 go_upto_region 1 with (fail)
 obtain ⟨H1, H2, HE⟩ := HB.out
 change Code.wp _ _ _ _ (World.alloc (World.alloc w (.cells (n.map bval).toArray 23)) (.cells zq.toArray 85))
 generalize (World.alloc (World.alloc w (.cells (n.map bval).toArray 23)) (.cells zq.toArray 85)) = wa at *
 obtain ⟨A, hA⟩ : ∃ A, A = w.heap.size := ⟨_, rfl⟩
 have HAW : Hid (w.heap.size ≤ A) := jh (by omega)
 rw [← hA] at H1 H2 ⊢
 have H1 := jh H1
 have H2 := jh H2
 have HE : Hid (Ext w wa) := jh HE
 clear hA HB
 obtain ⟨yl, hyl⟩ : ∃ yl, yl = yB n := ⟨_, rfl⟩
 obtain ⟨b, hb⟩ := bool_lt2 (bitN_lt n)
 have HYL : Hid (yl.length = 32) := jh (by rw [hyl]; exact maskB_length HNL.out)
 have HX1 : Hid ((n.map bval).set 31 (.int .u8 (bits .andNot .u8 ((n.getD 31 0).toNat : Int) 128)) = yl.map bval) := jh (by rw [u8_andnot, u8_set, hyl]; rfl)
 have ha := u8_and128 (n.getD 31 0)
 rw [show (n.getD 31 0).toNat / 128 = b.toNat from hb] at ha
 have HYE := jh hyl
 have HBE := jh hb
 clear hyl hb
 have c1 := H1.out.cell 31
 rw [zbu (by rw [HNL.out]; omega)] at c1
 have HQ1 := jh (zbu (l := n) (i := 31) (by rw [HNL.out]; omega))
 generalize ((n.getD 31 0).toNat : Int) = q1 at *
 have hne : (((128 * b.toNat : Nat) : Int) != 0) = b := by cases b <;> rfl
 generalize ((128 * b.toNat : Nat) : Int) = qb at *
 go_upto_region 2 with (fail)
 clear ha hne
 have HZ := jh (Blk.made wa (ints .u8 (List.replicate 32 0)) 23)
 have HEA := jh (Ext.alloc wa (.cells (ints .u8 (List.replicate 32 0)).toArray 23))
 have HL : Hid ((n.map bval).length = (ints .u8 (List.replicate 32 0)).length) := jh (by rw [List.length_map, HNL.out, zac]; rfl)
 have HLA := jh H2.out.lt
 go_upto_region 3 with (first | (refine zae rfl _ _ rfl A rfl _ _ _ _ H1.out Tryz.underlying23 (zaf HNL.out) ?_) | (refine zab rfl _ _ _ rfl wa.heap.size (n.map bval) rfl rfl _ _ HZ.out HL.out (zaf HNL.out) (zaj _) ?_; intro w7 hb hg))
 have HX := jh (zad HEA.out hg (Nat.le_refl _))
 obtain ⟨py, hT⟩ : ∃ T, T = wa.heap.size := ⟨_, rfl⟩
 rw [← hT] at hb HLA ⊢
 clear hT
 have H2 := jh (zaa H2.out HX.out)
 have HE := jh (HE.out.trans HX.out)
 have HY := jh hb
 clear hb hg HX HZ HEA HL c1 H1
 have c1 := HY.out.cell 31
 have HQ1 : (n.map bval)[31]? = some (.int .u8 q1) := HQ1.out
 rw [HQ1] at c1
 have f1 := HY.out.free 31
 clear HQ1
 go_upto_region 4 with (fail)
 have HM := jh (HY.out.set 31 (.int .u8 (bits .andNot .u8 q1 128)))
 rw [HX1.out] at HM
 have H2 := jh (H2.out.far (a := ⟨py, 31, none⟩) (by have := HLA.out; simp; omega) (.int .u8 (bits .andNot .u8 q1 128)))
 have HE := jh (Below.setCell HE.out (p := ⟨py, 31, none⟩) (by have := HLA.out; have := HAW.out; simp; omega) (.int .u8 (bits .andNot .u8 q1 128)))
 generalize bits .andNot .u8 q1 128 = v1 at *
 generalize w7.setCell ⟨py, 31, none⟩ (.int .u8 v1) = wb at *
 have HE : Hid (Ext w wb) := jh HE.out
 clear c1 f1 HX1 HY
 by_cases hp : leN yl < pN
 ·obtain ⟨y, hy⟩ : ∃ y, yl = nbF y := ⟨fp ((leN yl : Nat) : Int), (nbc_self HYL.out hp).symm⟩
  subst hy
  clear hp HYL
  have HCN := jh (ccanon_f y)
  go_wp2_with fail
  refine zbm (by kernel_rfl) (by kernel_rfl) ?_
  refine zai _ _ py 0 ((nbF y).map bval) _ (by rfl) rfl rfl (fun w hw => (zaa HM.out hw).range) Tryz.underlying23 rfl (zaf (zag _)) ?_
  simp only [Act.put, nrm]
  refine zah _ _ _ [.agg ((nbF y).map bval).toArray] (.agg ((nbF y).map bval).toArray) (by rfl) rfl Tryz.call82 rfl (fun w hw => HCN.out w) ?_
  simp only [Act.put, nrm]
  refine zai _ _ py 0 ((nbF y).map bval) _ (by rfl) rfl rfl (fun w hw => (zaa HM.out hw).range) Tryz.underlying23 rfl (zaf (zag _)) ?_
  simp only [Act.put, nrm]
  refine det_eql .neq _ _ _ _ _ 32 _ (nbF y) (nbF y) false (by rfl) rfl (Or.inr ⟨rfl, decide_eq_true rfl⟩) Tryz.underlying23 Tryz.underlying5 zcv zck zco rfl rfl (zag _) (zag _) ?_
  simp only [Act.put, nrm]
  refine zba (fun wc hwc => ?_)
  have H2 := jh (zaa H2.out hwc)
  have HM := jh (zaa HM.out hwc)
  have HE := jh (HE.out.trans hwc)
  clear hwc HCN
  go_wp2_with (first | (refine zaw rfl 23 #[(0, _)] rfl #[(0, .int .u8 1)] (by simp [Act.eval, Act.put]) (.agg ((nbF 1).map bval).toArray) (build_nbo _) ?_) | (refine wpList_load_mid rfl _ _ rfl py 0 rfl _ _ (HM.out.range) Tryz.underlying23 rfl (zaf (zag _)) ?_))
  refine (zfg _ (F32.nb y) (F32.nb y)).mono ?_
  rintro e w5 ⟨rfl, hb⟩
  have H2 := jh (zaa H2.out hb)
  have HM := jh (zaa HM.out hb)
  have HE := jh (HE.out.trans hb)
  clear hb
  obtain ⟨vs, hvs⟩ : ∃ vs, vs = y * y := ⟨_, rfl⟩
  rw [← hvs]
  have HVS := jh hvs
  clear hvs
  have HB2 := jh (boxes2 w5 (ints .u8 (List.replicate 32 0)) (ints .u8 (List.replicate 32 0)) 23 23)
  have HL1 : Hid (((nbF 1).map bval).length = (ints .u8 (List.replicate 32 0)).length) := jh (by rw [List.length_map, zag]; rfl)
  have HL2 : Hid (((nbF vs).map bval).length = (ints .u8 (List.replicate 32 0)).length) := jh (by rw [List.length_map, zag]; rfl)
  go_upto_region 7 with (first | (refine zab rfl _ _ _ rfl w5.heap.size ((nbF 1).map bval) rfl rfl _ _ HB2.out.1 HL1.out (zaf (zag _)) (zaj _) ?_; intro w6 hs1 hg1) | (refine zab rfl _ _ _ rfl (w5.heap.size + 1) ((nbF vs).map bval) rfl rfl _ _ (HB2.out.2.1.grown hg1 (by simp)) HL2.out (zaf (zag _)) (zaj _) ?_; intro w7 hs2 hg2))
  have HX := jh (zad (zad HB2.out.2.2 hg1 (Nat.le_refl _)) hg2 (Nat.le_succ _))
  have HO1 := jh (hs1.grown hg2 (by simp))
  have HS2 := jh hs2
  obtain ⟨po, hT⟩ : ∃ T, T = w5.heap.size := ⟨_, rfl⟩
  rw [← hT] at HO1 HS2 ⊢
  clear hT
  have H2 := jh (zaa H2.out HX.out)
  have HM := jh (zaa HM.out HX.out)
  have HE := jh (HE.out.trans HX.out)
  clear hs1 hs2 hg1 hg2 HX HB2 HL1 HL2
  generalize w7 = wd at *
  go_wp2_with fail
  refine zal 6 2 7 rfl (by kernel_rfl) (by kernel_rfl) (fun d v c a w h => by cases d <;> exact h) (by kernel_rfl) ?_
  refine zai _ _ 3 0 ((nbF dF).map bval) _ (by rfl) rfl rfl (fun w hw => HGC.out.ext (HE.out.trans hw)) Tryz.underlying23 rfl (zaf (zag _)) ?_
  simp only [Act.put, nrm]
  refine zai _ _ (po + 1) 0 ((nbF vs).map bval) _ (by rfl) rfl rfl (fun w hw => (zaa HS2.out hw).range) Tryz.underlying23 rfl (zaf (zag _)) ?_
  simp only [Act.put, nrm]
  refine zah _ _ _ [.agg ((nbF dF).map bval).toArray, .agg ((nbF vs).map bval).toArray] (.agg ((nbF (dF * vs)).map bval).toArray) (by rfl) rfl Tryz.call83 rfl (fun w hw => zfg w (F32.nb _) (F32.nb _)) ?_
  simp only [Act.put, nrm]
  refine zai _ _ po 0 ((nbF 1).map bval) _ (by rfl) rfl rfl (fun w hw => (zaa HO1.out hw).range) Tryz.underlying23 rfl (zaf (zag _)) ?_
  simp only [Act.put, nrm]
  refine zah _ _ _ [.agg ((nbF (dF * vs)).map bval).toArray, .agg ((nbF 1).map bval).toArray] (.agg ((nbF ((dF * vs) + 1)).map bval).toArray) (by rfl) rfl Tryz.call85 rfl (fun w hw => fadd_f w (F32.nb _) (F32.nb _)) ?_
  simp only [Act.put, nrm]
  refine zah _ _ _ [.agg ((nbF ((dF * vs) + 1)).map bval).toArray] (.agg ((nbF (fi ((dF * vs) + 1))).map bval).toArray) (by rfl) rfl Tryz.call84 rfl (fun w hw => finv_f w (F32.nb _)) ?_
  simp only [Act.put, nrm]
  refine zba (zfb (k := 6) _ 8 (.tmp 34) (ints .u8 (List.replicate 32 0)) ((nbF (fi ((dF * vs) + 1))).map bval) rfl rfl (by kernel_rfl) (by kernel_rfl) (by kernel_rfl) (by kernel_rfl) (by kernel_rfl) rfl rfl rfl rfl (fun w => by rw [Tryz.zeroValue23]; rfl) rfl (by simp) (fun p => rfl) (by rw [List.length_map, zag]; rfl) (zaf (zag _)) (zaj _) (fun pw ww hp hb he => ?_))
  try simp only [Act.put, nrm]
  have H2 := jh (zaa H2.out he)
  have HM := jh (zaa HM.out he)
  have HO1 := jh (zaa HO1.out he)
  have HS2 := jh (zaa HS2.out he)
  have HE := jh (HE.out.trans he)
  have HPw := jh hp
  clear he hp
  obtain ⟨vw, hq⟩ : ∃ kk, kk = (fi ((dF * vs) + 1)) := ⟨_, rfl⟩
  rw [← hq] at hb
  have HQw := jh hq
  clear hq
  have HVw := jh hb
  clear hb
  have HRD : Hid ((vs - 1) * vw = rad y) := jh (by rw [HQw.out, HVS.out]; rfl)
  obtain ⟨ok, hok⟩ : ∃ ok, rtB (rad y) = ok := ⟨_, rfl⟩
  have HOK := jh hok
  clear hok
  go_wp2_with fail
  have H2w := jh H2.out.lt
  have HMw := jh HM.out.lt
  have HOw := jh HO1.out.lt
  go_cut [9, 10] from 35 to 43 (fun u9 u10 wq => ∃ gx, u9 = .pointer (some ⟨gx, 0, none⟩) ∧ u10 = .bool ok ∧ ww.heap.size ≤ gx ∧ Blk wq gx ((nbF (rtX (rad y))).map bval) 23 ∧ Ext ww wq)
  case first =>
   have B0 : Ext ww ww.drew := Ext.drew _
   refine wp_region_held_drew (S := fun w' => Ext ww w') (by kernel_rfl) B0 (fun hHeld => ?_)
   refine tke 0 (.agg ((nbF vs).map bval).toArray) rfl (yieldsIf_load_mid (by rfl) _ _ rfl (po + 1) 0 rfl _ _ (fun w h => zbe HS2.out h) Tryz.underlying23 rfl (zaf (zag _))) hHeld ?_
   simp only [Act.put, nrm]
   refine tke 1 (.agg ((nbF 1).map bval).toArray) rfl (yieldsIf_load_mid (by rfl) _ _ rfl po 0 rfl _ _ (fun w h => zbe HO1.out h) Tryz.underlying23 rfl (zaf (zag _))) hHeld ?_
   simp only [Act.put, nrm]
   refine tke 3 (.agg ((nbF vw).map bval).toArray) rfl (yieldsIf_load_mid (by rfl) _ _ rfl pw 0 rfl _ _ (fun w h => zbe HVw.out h) Tryz.underlying23 rfl (zaf (zag _))) hHeld ?_
   simp only [Act.put, nrm]
   refine wpAnyH_ready (rs := [2, 9]) (by kernel_rfl) (by simp) (AllReadyH.cons rfl (fun K hK => ?_) (AllReadyH.cons rfl (fun K hK => ?_) AllReadyH.nil))
   ·go_simp
    refine (fsub_f _ (F32.nb vs) (F32.nb 1)).mono ?_
    rintro e m1 ⟨rfl, b1⟩
    have N1 : Ext ww m1 := B0.trans b1
    refine hK.out _ _ N1 (fun hHeld => ?_)
    clear hK K
    try simp only [Act.put, nrm]
    refine wpAnyH_ready (rs := [4, 9]) (by kernel_rfl) (by simp) (AllReadyH.cons rfl (fun K hK => ?_) (AllReadyH.cons rfl (fun K hK => ?_) AllReadyH.nil))
    ·go_simp
     refine (zfg _ (F32.nb (vs - 1)) (F32.nb vw)).mono ?_
     rintro e m2 ⟨rfl, b2⟩
     have N2 : Ext ww m2 := N1.trans b2
     refine hK.out _ _ N2 (fun hHeld => ?_)
     clear hK K
     try simp only [Act.put, nrm]
     refine wpAnyH_ready (rs := [5, 9]) (by kernel_rfl) (by simp) (AllReadyH.cons rfl (fun K hK => ?_) (AllReadyH.cons rfl (fun K hK => ?_) AllReadyH.nil))
     ·go_simp
      refine (croot_as _ HRD.out HOK.out).mono ?_
      rintro e m3 ⟨rfl, b3⟩
      have N3 : Ext ww m3 := N2.trans b3
      refine hK.out _ _ N3 (fun hHeld => ?_)
      clear hK K
      try simp only [Act.put, nrm]
      refine tke 6 (.tuple #[.agg ((nbF (rtX (rad y))).map bval).toArray, .bool ok]) rfl (zcb _ (.tuple #[.agg ((nbF (rtX (rad y))).map bval).toArray, .bool ok]) (by rfl) rfl rfl) hHeld ?_
      simp only [Act.put, nrm]
      refine tke 7 (.agg ((nbF (rtX (rad y))).map bval).toArray) rfl (zbl (.agg ((nbF (rtX (rad y))).map bval).toArray) (by rfl) (fun w _ => by go_simp)) hHeld ?_
      simp only [Act.put, nrm]
      refine tke 8 (.bool ok) rfl (zbl (.bool ok) (by rfl) (fun w _ => by go_simp)) hHeld ?_
      simp only [Act.put, nrm]
      refine rdy 9 rfl fun K hK => ?_
      refine zan (by rfl) ?_
      refine zax (some 9) _ (ints .u8 (List.replicate 32 0)) rfl rfl (fun w => by rw [Tryz.zeroValue23]; rfl) ?_
      obtain ⟨m4, hm4⟩ : ∃ wNew, wNew = World.alloc m3 (.cells ((ints .u8 (List.replicate 32 0))).toArray 23) := ⟨_, rfl⟩
      rw [← hm4]
      have b4 : Ext m3 m4 := by rw [hm4]; exact Ext.alloc _ _
      obtain ⟨g4, hg4⟩ : ∃ gNew, gNew = (m3).heap.size := ⟨_, rfl⟩
      rw [← hg4]
      have z4 : Blk m4 g4 (ints .u8 (List.replicate 32 0)) 23 := by rw [hm4, hg4]; exact Blk.made _ _ _
      have l4 : (ww).heap.size ≤ g4 := by rw [hg4]; exact N3.size
      clear hm4 hg4
      have N4 : Ext ww m4 := N3.trans b4
      refine hK.out _ _ N4 (fun hHeld => ?_)
      clear hK K
      try simp only [Act.put, nrm]
      refine rdy 10 rfl fun K hK => ?_
      refine zan (by rfl) ?_
      refine zak _ _ _ rfl g4 ((nbF (rtX (rad y))).map bval) rfl rfl _ _ z4 (by rw [List.length_map, (zag _)]; rfl) (zaf ((zag _))) (zaj _) ?_
      intro m5 hb5 hg5
      have N5 : Ext ww m5 := zad N4 hg5 l4
      refine hK.out _ _ N5 (fun hHeld => ?_)
      clear hK K
      try simp only [Act.put, nrm]
      refine rdy 11 rfl fun K hK => ?_
      go_simp
      refine hK.out _ _ N5 (fun hHeld => ?_)
      clear hK K
      try simp only [Act.put, nrm]
      refine dne ?_
      go_wp2_with fail
      go_meet
      exact ⟨_, rfl, rfl, l4, hb5, N5⟩
     ·refine zan (by rfl) ?_
      refine zax (some 9) _ (ints .u8 (List.replicate 32 0)) rfl rfl (fun w => by rw [Tryz.zeroValue23]; rfl) ?_
      obtain ⟨m3, hm3⟩ : ∃ wNew, wNew = World.alloc m2 (.cells ((ints .u8 (List.replicate 32 0))).toArray 23) := ⟨_, rfl⟩
      rw [← hm3]
      have b3 : Ext m2 m3 := by rw [hm3]; exact Ext.alloc _ _
      obtain ⟨g3, hg3⟩ : ∃ gNew, gNew = (m2).heap.size := ⟨_, rfl⟩
      rw [← hg3]
      have z3 : Blk m3 g3 (ints .u8 (List.replicate 32 0)) 23 := by rw [hm3, hg3]; exact Blk.made _ _ _
      have l3 : (ww).heap.size ≤ g3 := by rw [hg3]; exact N2.size
      clear hm3 hg3
      have N3 : Ext ww m3 := N2.trans b3
      refine hK.out _ _ N3 (fun hHeld => ?_)
      clear hK K
      try simp only [Act.put, nrm]
      refine rdy 5 rfl fun K hK => ?_
      go_simp
      refine (croot_as _ HRD.out HOK.out).mono ?_
      rintro e m4 ⟨rfl, b4⟩
      have z3 := z3.below b4
      have N4 : Ext ww m4 := N3.trans b4
      refine hK.out _ _ N4 (fun hHeld => ?_)
      clear hK K
      try simp only [Act.put, nrm]
      refine tke 6 (.tuple #[.agg ((nbF (rtX (rad y))).map bval).toArray, .bool ok]) rfl (zcb _ (.tuple #[.agg ((nbF (rtX (rad y))).map bval).toArray, .bool ok]) (by rfl) rfl rfl) hHeld ?_
      simp only [Act.put, nrm]
      refine tke 7 (.agg ((nbF (rtX (rad y))).map bval).toArray) rfl (zbl (.agg ((nbF (rtX (rad y))).map bval).toArray) (by rfl) (fun w _ => by go_simp)) hHeld ?_
      simp only [Act.put, nrm]
      refine tke 8 (.bool ok) rfl (zbl (.bool ok) (by rfl) (fun w _ => by go_simp)) hHeld ?_
      simp only [Act.put, nrm]
      refine rdy 10 rfl fun K hK => ?_
      refine zan (by rfl) ?_
      refine zak _ _ _ rfl g3 ((nbF (rtX (rad y))).map bval) rfl rfl _ _ z3 (by rw [List.length_map, (zag _)]; rfl) (zaf ((zag _))) (zaj _) ?_
      intro m5 hb5 hg5
      have N5 : Ext ww m5 := zad N4 hg5 l3
      refine hK.out _ _ N5 (fun hHeld => ?_)
      clear hK K
      try simp only [Act.put, nrm]
      refine rdy 11 rfl fun K hK => ?_
      go_simp
      refine hK.out _ _ N5 (fun hHeld => ?_)
      clear hK K
      try simp only [Act.put, nrm]
      refine dne ?_
      go_wp2_with fail
      go_meet
      exact ⟨_, rfl, rfl, l3, hb5, N5⟩
    ·refine zan (by rfl) ?_
     refine zax (some 9) _ (ints .u8 (List.replicate 32 0)) rfl rfl (fun w => by rw [Tryz.zeroValue23]; rfl) ?_
     obtain ⟨m2, hm2⟩ : ∃ wNew, wNew = World.alloc m1 (.cells ((ints .u8 (List.replicate 32 0))).toArray 23) := ⟨_, rfl⟩
     rw [← hm2]
     have b2 : Ext m1 m2 := by rw [hm2]; exact Ext.alloc _ _
     obtain ⟨g2, hg2⟩ : ∃ gNew, gNew = (m1).heap.size := ⟨_, rfl⟩
     rw [← hg2]
     have z2 : Blk m2 g2 (ints .u8 (List.replicate 32 0)) 23 := by rw [hm2, hg2]; exact Blk.made _ _ _
     have l2 : (ww).heap.size ≤ g2 := by rw [hg2]; exact N1.size
     clear hm2 hg2
     have N2 : Ext ww m2 := N1.trans b2
     refine hK.out _ _ N2 (fun hHeld => ?_)
     clear hK K
     try simp only [Act.put, nrm]
     refine rdy 4 rfl fun K hK => ?_
     go_simp
     refine (zfg _ (F32.nb (vs - 1)) (F32.nb vw)).mono ?_
     rintro e m3 ⟨rfl, b3⟩
     have z2 := z2.below b3
     have N3 : Ext ww m3 := N2.trans b3
     refine hK.out _ _ N3 (fun hHeld => ?_)
     clear hK K
     try simp only [Act.put, nrm]
     refine rdy 5 rfl fun K hK => ?_
     go_simp
     refine (croot_as _ HRD.out HOK.out).mono ?_
     rintro e m4 ⟨rfl, b4⟩
     have z2 := z2.below b4
     have N4 : Ext ww m4 := N3.trans b4
     refine hK.out _ _ N4 (fun hHeld => ?_)
     clear hK K
     try simp only [Act.put, nrm]
     refine tke 6 (.tuple #[.agg ((nbF (rtX (rad y))).map bval).toArray, .bool ok]) rfl (zcb _ (.tuple #[.agg ((nbF (rtX (rad y))).map bval).toArray, .bool ok]) (by rfl) rfl rfl) hHeld ?_
     simp only [Act.put, nrm]
     refine tke 7 (.agg ((nbF (rtX (rad y))).map bval).toArray) rfl (zbl (.agg ((nbF (rtX (rad y))).map bval).toArray) (by rfl) (fun w _ => by go_simp)) hHeld ?_
     simp only [Act.put, nrm]
     refine tke 8 (.bool ok) rfl (zbl (.bool ok) (by rfl) (fun w _ => by go_simp)) hHeld ?_
     simp only [Act.put, nrm]
     refine rdy 10 rfl fun K hK => ?_
     refine zan (by rfl) ?_
     refine zak _ _ _ rfl g2 ((nbF (rtX (rad y))).map bval) rfl rfl _ _ z2 (by rw [List.length_map, (zag _)]; rfl) (zaf ((zag _))) (zaj _) ?_
     intro m5 hb5 hg5
     have N5 : Ext ww m5 := zad N4 hg5 l2
     refine hK.out _ _ N5 (fun hHeld => ?_)
     clear hK K
     try simp only [Act.put, nrm]
     refine rdy 11 rfl fun K hK => ?_
     go_simp
     refine hK.out _ _ N5 (fun hHeld => ?_)
     clear hK K
     try simp only [Act.put, nrm]
     refine dne ?_
     go_wp2_with fail
     go_meet
     exact ⟨_, rfl, rfl, l2, hb5, N5⟩
   ·refine zan (by rfl) ?_
    refine zax (some 9) _ (ints .u8 (List.replicate 32 0)) rfl rfl (fun w => by rw [Tryz.zeroValue23]; rfl) ?_
    obtain ⟨m1, hm1⟩ : ∃ wNew, wNew = World.alloc ww.drew (.cells ((ints .u8 (List.replicate 32 0))).toArray 23) := ⟨_, rfl⟩
    rw [← hm1]
    have b1 : Ext ww.drew m1 := by rw [hm1]; exact Ext.alloc _ _
    obtain ⟨g1, hg1⟩ : ∃ gNew, gNew = (ww.drew).heap.size := ⟨_, rfl⟩
    rw [← hg1]
    have z1 : Blk m1 g1 (ints .u8 (List.replicate 32 0)) 23 := by rw [hm1, hg1]; exact Blk.made _ _ _
    have l1 : (ww).heap.size ≤ g1 := by rw [hg1]; exact B0.size
    clear hm1 hg1
    have N1 : Ext ww m1 := B0.trans b1
    refine hK.out _ _ N1 (fun hHeld => ?_)
    clear hK K
    try simp only [Act.put, nrm]
    refine rdy 2 rfl fun K hK => ?_
    go_simp
    refine (fsub_f _ (F32.nb vs) (F32.nb 1)).mono ?_
    rintro e m2 ⟨rfl, b2⟩
    have z1 := z1.below b2
    have N2 : Ext ww m2 := N1.trans b2
    refine hK.out _ _ N2 (fun hHeld => ?_)
    clear hK K
    try simp only [Act.put, nrm]
    refine rdy 4 rfl fun K hK => ?_
    go_simp
    refine (zfg _ (F32.nb (vs - 1)) (F32.nb vw)).mono ?_
    rintro e m3 ⟨rfl, b3⟩
    have z1 := z1.below b3
    have N3 : Ext ww m3 := N2.trans b3
    refine hK.out _ _ N3 (fun hHeld => ?_)
    clear hK K
    try simp only [Act.put, nrm]
    refine rdy 5 rfl fun K hK => ?_
    go_simp
    refine (croot_as _ HRD.out HOK.out).mono ?_
    rintro e m4 ⟨rfl, b4⟩
    have z1 := z1.below b4
    have N4 : Ext ww m4 := N3.trans b4
    refine hK.out _ _ N4 (fun hHeld => ?_)
    clear hK K
    try simp only [Act.put, nrm]
    refine tke 6 (.tuple #[.agg ((nbF (rtX (rad y))).map bval).toArray, .bool ok]) rfl (zcb _ (.tuple #[.agg ((nbF (rtX (rad y))).map bval).toArray, .bool ok]) (by rfl) rfl rfl) hHeld ?_
    simp only [Act.put, nrm]
    refine tke 7 (.agg ((nbF (rtX (rad y))).map bval).toArray) rfl (zbl (.agg ((nbF (rtX (rad y))).map bval).toArray) (by rfl) (fun w _ => by go_simp)) hHeld ?_
    simp only [Act.put, nrm]
    refine tke 8 (.bool ok) rfl (zbl (.bool ok) (by rfl) (fun w _ => by go_simp)) hHeld ?_
    simp only [Act.put, nrm]
    refine rdy 10 rfl fun K hK => ?_
    refine zan (by rfl) ?_
    refine zak _ _ _ rfl g1 ((nbF (rtX (rad y))).map bval) rfl rfl _ _ z1 (by rw [List.length_map, (zag _)]; rfl) (zaf ((zag _))) (zaj _) ?_
    intro m5 hb5 hg5
    have N5 : Ext ww m5 := zad N4 hg5 l1
    refine hK.out _ _ N5 (fun hHeld => ?_)
    clear hK K
    try simp only [Act.put, nrm]
    refine rdy 11 rfl fun K hK => ?_
    go_simp
    refine hK.out _ _ N5 (fun hHeld => ?_)
    clear hK K
    try simp only [Act.put, nrm]
    refine dne ?_
    go_wp2_with fail
    go_meet
    exact ⟨_, rfl, rfl, l1, hb5, N5⟩
  case rest =>
   obtain ⟨px, rfl, rfl, hp0, hb0, hX⟩ := hcut
   have H2 := jh (zaa H2.out hX)
   have HM := jh (zaa HM.out hX)
   have HO1 := jh (zaa HO1.out hX)
   have HS2 := jh (zaa HS2.out hX)
   have HVw := jh (zaa HVw.out hX)
   have HE := jh (HE.out.trans hX)
   have HPx := jh hp0
   clear hX hp0
   generalize wc = wx at *
   have HVx := jh hb0
   clear hb0
   obtain ⟨vx, hvx⟩ : ∃ k, rtX (rad y) = k := ⟨_, rfl⟩
   rw [hvx] at HVx
   have HXX := jh hvx
   clear hvx
   have HYB : Hid (yB n = nbF y) := jh HYE.out.symm
   cases ok
   ·have HNO := jh (dec_none_root HNL.out HYB.out HOK.out)
    have HL : Hid ((ptF ⟨0, 0, 0, 0⟩).length = zq.length) := jh ((zbd _).trans zq_length.symm)
    go_wp2_with (first | (refine zaw rfl 85 #[] rfl #[] (by simp) (.agg (ptF ⟨0, 0, 0, 0⟩).toArray) (build_none _) ?_) | (refine zab rfl _ _ _ rfl (A + 1) (ptF ⟨0, 0, 0, 0⟩) rfl rfl _ _ H2.out HL.out (zbb _) (zcp _) ?_; intro w9 hb9 hg9))
    refine bodyPost_ret (zar rfl _ (A + 1) _ _ _ rfl hb9 Tryz.underlying85 rfl (zbb _)) rfl ?_
    exact ⟨by rw [HNO.out.1, HNO.out.2]; rfl, zad HE.out hg9 (by have := HAW.out; omega)⟩
   ·have HLX : Hid (A + 1 < px ∧ py < px ∧ po < px) := jh ⟨Nat.lt_of_lt_of_le H2w.out HPx.out, Nat.lt_of_lt_of_le HMw.out HPx.out, Nat.lt_of_lt_of_le HOw.out HPx.out⟩
    cases b
    ·have HSM := jh (dec_some HNL.out (b := false) HYB.out HOK.out HBE.out (fun hh => by cases hh.2))
     go_upto_region 11 with (fail)
     refine zal 6 1 6 rfl (by kernel_rfl) (by kernel_rfl) (fun d v c a w h => by cases d <;> exact h) (by kernel_rfl) ?_
     refine zai _ _ px 0 ((nbF vx).map bval) _ (by rfl) rfl rfl (fun w hw => (zaa HVx.out hw).range) Tryz.underlying23 rfl (zaf (zag _)) ?_
     simp only [Act.put, nrm]
     refine zeu _ _ #[] (.agg ((nbF 0).map bval).toArray) (by rfl) rfl (by simp [Act.eval]) (fun w => build_nbz w) ?_
     simp only [Act.put, nrm]
     refine zai _ _ px 0 ((nbF vx).map bval) _ (by rfl) rfl rfl (fun w hw => (zaa HVx.out hw).range) Tryz.underlying23 rfl (zaf (zag _)) ?_
     simp only [Act.put, nrm]
     refine zah _ _ _ [.agg ((nbF 0).map bval).toArray, .agg ((nbF vx).map bval).toArray] (.agg ((nbF (0 - vx)).map bval).toArray) (by rfl) rfl Tryz.call87 rfl (fun w hw => fsub_f w (F32.nb _) (F32.nb _)) ?_
     simp only [Act.put, nrm]
     refine zbc _ (.bool false) (by rfl) rfl rfl ?_
     simp only [Act.put, nrm]
     refine zah _ _ _ [.agg ((nbF vx).map bval).toArray, .agg ((nbF (0 - vx)).map bval).toArray, .bool false] (.agg ((nbF (pkF false vx (0 - vx))).map bval).toArray) (by rfl) rfl Tryz.call88 rfl (fun w hw => cpickn_f w false vx (0 - vx)) ?_
     simp only [Act.put, nrm]
     refine zba (zeq (k := 6) _ _ _ _ px ((nbF (pkF false vx (0 - vx))).map bval) ((nbF vx).map bval) rfl (by kernel_rfl) (by kernel_rfl) (by kernel_rfl) rfl rfl rfl rfl HVx.out (by rw [List.length_map, List.length_map, zag, zag]) (zaf (zag _)) (zaj _) (fun w8 hb8 hg8 => ?_))
     obtain ⟨vq, hvq⟩ : ∃ k, k = pkF false vx (0 - vx) := ⟨_, rfl⟩
     rw [← hvq] at hb8
     have HVQ := jh hvq
     clear hvq
     simp only [Act.put]
     have H2 := jh (H2.out.grown hg8 (by have := HLX.out; simp; omega))
     have HM := jh (HM.out.grown hg8 (by have := HLX.out; simp; omega))
     have HO1 := jh (HO1.out.grown hg8 (by have := HLX.out; simp; omega))
     have HE := jh (zad HE.out hg8 (by have := HLX.out; have := HAW.out; omega))
     have HVx := jh hb8
     clear hb8 hg8
     generalize w8 = w9 at *
     go_wp2_with fail
     refine zal 7 2 7 rfl (by kernel_rfl) (by kernel_rfl) (fun d v c a w h => by cases d <;> exact h) (by kernel_rfl) ?_
     refine zai _ _ px 0 ((nbF vq).map bval) _ (by rfl) rfl rfl (fun w hw => (zaa HVx.out hw).range) Tryz.underlying23 rfl (zaf (zag _)) ?_
     simp only [Act.put, nrm]
     refine zai _ _ py 0 ((nbF y).map bval) _ (by rfl) rfl rfl (fun w hw => (zaa HM.out hw).range) Tryz.underlying23 rfl (zaf (zag _)) ?_
     simp only [Act.put, nrm]
     refine zai _ _ po 0 ((nbF 1).map bval) _ (by rfl) rfl rfl (fun w hw => (zaa HO1.out hw).range) Tryz.underlying23 rfl (zaf (zag _)) ?_
     simp only [Act.put, nrm]
     refine zai _ _ px 0 ((nbF vq).map bval) _ (by rfl) rfl rfl (fun w hw => (zaa HVx.out hw).range) Tryz.underlying23 rfl (zaf (zag _)) ?_
     simp only [Act.put, nrm]
     refine zai _ _ py 0 ((nbF y).map bval) _ (by rfl) rfl rfl (fun w hw => (zaa HM.out hw).range) Tryz.underlying23 rfl (zaf (zag _)) ?_
     simp only [Act.put, nrm]
     refine zah _ _ _ [.agg ((nbF vq).map bval).toArray, .agg ((nbF y).map bval).toArray] (.agg ((nbF (vq * y)).map bval).toArray) (by rfl) rfl Tryz.call83 rfl (fun w hw => zfg w (F32.nb _) (F32.nb _)) ?_
     simp only [Act.put, nrm]
     refine zeu _ _ #[(0, .agg ((nbF vq).map bval).toArray), (1, .agg ((nbF y).map bval).toArray), (2, .agg ((nbF 1).map bval).toArray), (3, .agg ((nbF (vq * y)).map bval).toArray)] (.agg (ptF ⟨vq, y, 1, vq * y⟩).toArray) (by rfl) rfl (by simp [Act.eval]) (fun w => build_ptF ⟨vq, y, 1, vq * y⟩ w) ?_
     simp only [Act.put, nrm]
     refine zba (end_set_assign (k := 7) _ _ _ _ _ 3 (.bool true) (A + 1) (ptF ⟨vq, y, 1, vq * y⟩) zq rfl rfl (by kernel_rfl) (by kernel_rfl) (by kernel_rfl) (by kernel_rfl) rfl rfl rfl rfl rfl rfl H2.out ((zbd _).trans zq_length.symm) (zbb _) (zcp _) rfl rfl rfl (fun w10 hb10 hg10 => ?_))
     simp only [Act.put]
     go_wp2_with fail
     refine bodyPost_ret (zar rfl _ (A + 1) _ _ _ rfl hb10 Tryz.underlying85 rfl (zbb _)) rfl ?_
     exact ⟨by rw [HSM.out.1, HSM.out.2, HXX.out, ← HVQ.out]; rfl, zad HE.out hg10 (by have := HAW.out; omega)⟩
    ·by_cases h0 : vx = 0
     ·have HQ0 : Hid (decide (nbF vx = zer) = true) := jh (decide_eq_true (by rw [h0, nbF_zero]))
      have HNO := jh (dec_none_bit HNL.out HYB.out HOK.out (by rw [HXX.out]; exact h0) HBE.out)
      clear h0
      go_upto_region 10 with (first | (refine wpList_eql (by rfl) _ _ _ _ _ _ 32 _ (nbF vx) zer true rfl (Or.inl ⟨rfl, HQ0.out⟩) Tryz.underlying23 Tryz.underlying5 zcv zck zco rfl rfl (zag _) zej ?_) | (refine zcf (by rfl) _ _ rfl px rfl _ _ _ _ HVx.out Tryz.underlying23 (zaf (zag _)) ?_))
      have HL : Hid ((ptF ⟨0, 0, 0, 0⟩).length = zq.length) := jh ((zbd _).trans zq_length.symm)
      go_wp2_with (first | (refine zaw rfl 85 #[] rfl #[] (by simp) (.agg (ptF ⟨0, 0, 0, 0⟩).toArray) (build_none _) ?_) | (refine zab rfl _ _ _ rfl (A + 1) (ptF ⟨0, 0, 0, 0⟩) rfl rfl _ _ H2.out HL.out (zbb _) (zcp _) ?_; intro w9 hb9 hg9))
      refine bodyPost_ret (zar rfl _ (A + 1) _ _ _ rfl hb9 Tryz.underlying85 rfl (zbb _)) rfl ?_
      exact ⟨by rw [HNO.out.1, HNO.out.2]; rfl, zad HE.out hg9 (by have := HAW.out; omega)⟩
     ·have HQ0 : Hid (decide (nbF vx = zer) = false) := jh (decide_eq_false (fun h => h0 (nbF_inj (h.trans nbF_zero.symm))))
      have HSM := jh (dec_some HNL.out (b := true) HYB.out HOK.out HBE.out (fun hh => h0 (by rw [← HXX.out]; exact hh.1)))
      clear h0
      go_upto_region 11 with (first | (refine wpList_eql (by rfl) _ _ _ _ _ _ 32 _ (nbF vx) zer false rfl (Or.inl ⟨rfl, HQ0.out⟩) Tryz.underlying23 Tryz.underlying5 zcv zck zco rfl rfl (zag _) zej ?_) | (refine zcf (by rfl) _ _ rfl px rfl _ _ _ _ HVx.out Tryz.underlying23 (zaf (zag _)) ?_))
      refine zal 6 1 6 rfl (by kernel_rfl) (by kernel_rfl) (fun d v c a w h => by cases d <;> exact h) (by kernel_rfl) ?_
      refine zai _ _ px 0 ((nbF vx).map bval) _ (by rfl) rfl rfl (fun w hw => (zaa HVx.out hw).range) Tryz.underlying23 rfl (zaf (zag _)) ?_
      simp only [Act.put, nrm]
      refine zeu _ _ #[] (.agg ((nbF 0).map bval).toArray) (by rfl) rfl (by simp [Act.eval]) (fun w => build_nbz w) ?_
      simp only [Act.put, nrm]
      refine zai _ _ px 0 ((nbF vx).map bval) _ (by rfl) rfl rfl (fun w hw => (zaa HVx.out hw).range) Tryz.underlying23 rfl (zaf (zag _)) ?_
      simp only [Act.put, nrm]
      refine zah _ _ _ [.agg ((nbF 0).map bval).toArray, .agg ((nbF vx).map bval).toArray] (.agg ((nbF (0 - vx)).map bval).toArray) (by rfl) rfl Tryz.call87 rfl (fun w hw => fsub_f w (F32.nb _) (F32.nb _)) ?_
      simp only [Act.put, nrm]
      refine zbc _ (.bool true) (by rfl) rfl rfl ?_
      simp only [Act.put, nrm]
      refine zah _ _ _ [.agg ((nbF vx).map bval).toArray, .agg ((nbF (0 - vx)).map bval).toArray, .bool true] (.agg ((nbF (pkF true vx (0 - vx))).map bval).toArray) (by rfl) rfl Tryz.call88 rfl (fun w hw => cpickn_f w true vx (0 - vx)) ?_
      simp only [Act.put, nrm]
      refine zba (zeq (k := 6) _ _ _ _ px ((nbF (pkF true vx (0 - vx))).map bval) ((nbF vx).map bval) rfl (by kernel_rfl) (by kernel_rfl) (by kernel_rfl) rfl rfl rfl rfl HVx.out (by rw [List.length_map, List.length_map, zag, zag]) (zaf (zag _)) (zaj _) (fun w8 hb8 hg8 => ?_))
      obtain ⟨vq, hvq⟩ : ∃ k, k = pkF true vx (0 - vx) := ⟨_, rfl⟩
      rw [← hvq] at hb8
      have HVQ := jh hvq
      clear hvq
      simp only [Act.put]
      have H2 := jh (H2.out.grown hg8 (by have := HLX.out; simp; omega))
      have HM := jh (HM.out.grown hg8 (by have := HLX.out; simp; omega))
      have HO1 := jh (HO1.out.grown hg8 (by have := HLX.out; simp; omega))
      have HE := jh (zad HE.out hg8 (by have := HLX.out; have := HAW.out; omega))
      have HVx := jh hb8
      clear hb8 hg8
      generalize w8 = w9 at *
      go_wp2_with fail
      refine zal 7 2 7 rfl (by kernel_rfl) (by kernel_rfl) (fun d v c a w h => by cases d <;> exact h) (by kernel_rfl) ?_
      refine zai _ _ px 0 ((nbF vq).map bval) _ (by rfl) rfl rfl (fun w hw => (zaa HVx.out hw).range) Tryz.underlying23 rfl (zaf (zag _)) ?_
      simp only [Act.put, nrm]
      refine zai _ _ py 0 ((nbF y).map bval) _ (by rfl) rfl rfl (fun w hw => (zaa HM.out hw).range) Tryz.underlying23 rfl (zaf (zag _)) ?_
      simp only [Act.put, nrm]
      refine zai _ _ po 0 ((nbF 1).map bval) _ (by rfl) rfl rfl (fun w hw => (zaa HO1.out hw).range) Tryz.underlying23 rfl (zaf (zag _)) ?_
      simp only [Act.put, nrm]
      refine zai _ _ px 0 ((nbF vq).map bval) _ (by rfl) rfl rfl (fun w hw => (zaa HVx.out hw).range) Tryz.underlying23 rfl (zaf (zag _)) ?_
      simp only [Act.put, nrm]
      refine zai _ _ py 0 ((nbF y).map bval) _ (by rfl) rfl rfl (fun w hw => (zaa HM.out hw).range) Tryz.underlying23 rfl (zaf (zag _)) ?_
      simp only [Act.put, nrm]
      refine zah _ _ _ [.agg ((nbF vq).map bval).toArray, .agg ((nbF y).map bval).toArray] (.agg ((nbF (vq * y)).map bval).toArray) (by rfl) rfl Tryz.call83 rfl (fun w hw => zfg w (F32.nb _) (F32.nb _)) ?_
      simp only [Act.put, nrm]
      refine zeu _ _ #[(0, .agg ((nbF vq).map bval).toArray), (1, .agg ((nbF y).map bval).toArray), (2, .agg ((nbF 1).map bval).toArray), (3, .agg ((nbF (vq * y)).map bval).toArray)] (.agg (ptF ⟨vq, y, 1, vq * y⟩).toArray) (by rfl) rfl (by simp [Act.eval]) (fun w => build_ptF ⟨vq, y, 1, vq * y⟩ w) ?_
      simp only [Act.put, nrm]
      refine zba (end_set_assign (k := 7) _ _ _ _ _ 3 (.bool true) (A + 1) (ptF ⟨vq, y, 1, vq * y⟩) zq rfl rfl (by kernel_rfl) (by kernel_rfl) (by kernel_rfl) (by kernel_rfl) rfl rfl rfl rfl rfl rfl H2.out ((zbd _).trans zq_length.symm) (zbb _) (zcp _) rfl rfl rfl (fun w10 hb10 hg10 => ?_))
      simp only [Act.put]
      go_wp2_with fail
      refine bodyPost_ret (zar rfl _ (A + 1) _ _ _ rfl hb10 Tryz.underlying85 rfl (zbb _)) rfl ?_
      exact ⟨by rw [HSM.out.1, HSM.out.2, HXX.out, ← HVQ.out]; rfl, zad HE.out hg10 (by have := HAW.out; omega)⟩
 ·have HNO := jh (dec_none_y HNL.out (by rw [← HYE.out]; omega))
  have HNC := jh (nbc_not (l := yl) (by omega))
  clear hp
  have HCN := jh (fun w => Canon_num yl w HYL.out)
  go_wp2_with fail
  refine zbm (by kernel_rfl) (by kernel_rfl) ?_
  refine zai _ _ py 0 (yl.map bval) _ (by rfl) rfl rfl (fun w hw => (zaa HM.out hw).range) Tryz.underlying23 rfl (zaf HYL.out) ?_
  simp only [Act.put, nrm]
  refine zah _ _ _ [.agg (yl.map bval).toArray] (.agg ((nb ((leN yl : Nat) : Int)).map bval).toArray) (by rfl) rfl Tryz.call82 rfl (fun w hw => HCN.out w) ?_
  simp only [Act.put, nrm]
  refine zai _ _ py 0 (yl.map bval) _ (by rfl) rfl rfl (fun w hw => (zaa HM.out hw).range) Tryz.underlying23 rfl (zaf HYL.out) ?_
  simp only [Act.put, nrm]
  refine det_eql .neq _ _ _ _ _ 32 _ (nb ((leN yl : Nat) : Int)) (yl) true (by rfl) rfl (Or.inr ⟨rfl, decide_eq_false HNC.out⟩) Tryz.underlying23 Tryz.underlying5 zcv zck zco rfl rfl (crv_nb_length _) (HYL.out) ?_
  simp only [Act.put, nrm]
  refine zba (fun wc hwc => ?_)
  have H2 := jh (zaa H2.out hwc)
  have HM := jh (zaa HM.out hwc)
  have HE := jh (HE.out.trans hwc)
  clear hwc HCN
  have HL : Hid ((ptF ⟨0, 0, 0, 0⟩).length = zq.length) := jh ((zbd _).trans zq_length.symm)
  go_wp2_with (first | (refine zaw rfl 85 #[] rfl #[] (by simp) (.agg (ptF ⟨0, 0, 0, 0⟩).toArray) (build_none _) ?_) | (refine zab rfl _ _ _ rfl (A + 1) (ptF ⟨0, 0, 0, 0⟩) rfl rfl _ _ H2.out HL.out (zbb _) (zcp _) ?_; intro w9 hb9 hg9))
  refine bodyPost_ret (zar rfl _ (A + 1) _ _ _ rfl hb9 Tryz.underlying85 rfl (zbb _)) rfl ?_
  exact ⟨by rw [HNO.out.1, HNO.out.2]; rfl, zad HE.out hg9 (by have := HAW.out; omega)⟩
end Go.Proofs.YthafgicndklgfaaGreatDoor
