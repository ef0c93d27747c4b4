/- Texts that belong together, one behind the other. -/
import Derived.Test.YthafgicndklgfaaGreatDoorQz26
namespace Go.Proofs.YthafgicndklgfaaGreatDoor
set_option linter.unusedVariables false
set_option maxRecDepth 100000
set_option maxHeartbeats 32000000
set_option linter.unusedSimpArgs false
open Go.RowKit
theorem nbc_length (x : Int) : (nb x).length = 32 := zbf _ _
theorem rread_f (n : List UInt8) (w : World) (hn : n.length = 32) (hD : GlobD w) (hG : Glob w) : Calls Tryz.prog 48 #[.agg (n.map bval).toArray] w fun e w' => ∃ cs : List Value, e = .returned (.tuple #[.agg cs.toArray, .bool (mayB n)]) ∧ cs.length = 64 ∧ (∀ v ∈ cs, v.oneCell' = true) ∧ (∀ P, encB P = n → ∃ s, PtV (.agg cs.toArray) s ∧ s.is P) ∧ Below w.heap.size w w' := by
 have HNL := jh hn
 have HGD := jh hD
 have HGR := jh hG
 clear hn hD hG
 have HB := jh (boxes2 w (n.map bval) (ints .i64 (List.replicate 64 0)) 23 70)
 obtain ⟨yl, hyl⟩ : ∃ yl, yl = yB n := ⟨_, rfl⟩
 obtain ⟨b, hb⟩ : ∃ b, b = bitN n := ⟨_, rfl⟩
 have HYL : Hid (yl.length = 32) := jh (by rw [hyl]; exact maskB_length HNL.out)
 have HX1 : Hid ((n.map bval).set 31 (.int .u8 (bits .and .u8 ((n.getD 31 0).toNat : Int) 127)) = yl.map bval) := jh (by
  have e1 := u8_and (n.getD 31 0) 127
  rw [show (127 : Int) = ((127 : UInt8).toNat : Int) from rfl, e1, u8_set, hyl]
  rfl)
 have hsa : ((n.getD 31 0).toNat : Int) / 128 = (b : Int) := by rw [hb]; unfold bitN; omega
 have hsb : ((n.getD 31 0).toNat : Int) / 2 ^ 7 = (b : Int) := hsa
 have hb2 : b < 2 := by rw [hb]; exact bitN_lt n
 have hb0 : (0 : Int) ≤ (b : Int) := Int.natCast_nonneg _
 have hb256 : (b : Int) < 256 := by omega
 have HYE := jh hyl
 have HBE := jh hb
 clear hyl hb
 go_enter Tryz.func48, Tryz.ntmps48
 go_upto_region 1 with (fail)
 obtain ⟨H1, H2, HE⟩ := HB.out
 change Code.wp _ _ _ _ ((w.alloc (.cells (n.map bval).toArray 23)).alloc (.cells (ints .i64 (List.replicate 64 0)).toArray 70))
 generalize (w.alloc (.cells (n.map bval).toArray 23)).alloc (.cells (ints .i64 (List.replicate 64 0)).toArray 70) = wa at *
 obtain ⟨A, hA⟩ : ∃ A, A = w.heap.size := ⟨_, rfl⟩
 have HO : Hid (w.heap.size ≤ A) := jh (by omega)
 rw [← hA] at H1 H2 ⊢
 have HN := jh H1
 have HR := jh H2
 have HE : Hid (Ext w wa) := jh HE
 clear hA HB H1 H2
 have c1 := HN.out.cell 31
 rw [zbu (by rw [HNL.out]; omega)] at c1
 have f1 := HN.out.free 31
 generalize ((n.getD 31 0).toNat : Int) = q1 at *
 go_upto_region 3 with (fail)
 have HM := jh (HN.out.set 31 (.int .u8 (bits .and .u8 q1 127)))
 rw [HX1.out] at HM
 have HR := jh (HR.out.far (a := ⟨A, 31, none⟩) (by simp) (.int .u8 (bits .and .u8 q1 127)))
 have HE := jh (Below.setCell HE.out (p := ⟨A, 31, none⟩) (by have := HO.out; simp; omega) (.int .u8 (bits .and .u8 q1 127)))
 generalize bits .and .u8 q1 127 = v1 at *
 generalize wa.setCell ⟨A, 31, none⟩ (.int .u8 v1) = wb at *
 have HE : Hid (Ext w wb) := jh HE.out
 clear c1 f1 HX1 hsa hsb HN
 have HIY := jh (zaf HYL.out)
 have HIZ : Hid ((Tryz.prog.info? 70).map (·.size) = some (ints .i64 (List.replicate 64 0)).length) := jh (by rw [zac]; kernel_rfl)
 by_cases hp : leN yl < pN
 ·have hcn : nb ((leN yl : Nat) : Int) = yl := nbc_self HYL.out hp
  have HPN := jh hp
  clear hp
  have B0 : Ext wb wb.drew := Ext.drew _
  refine wp_region_held_drew (S := fun w' => Ext wb w') (by kernel_rfl) B0 (fun hHeld => ?_)
  refine tke 0 (.agg ((yl).map bval).toArray) rfl (yieldsIf_load_mid (by rfl) _ _ rfl A 0 rfl _ _ (fun w h => zbe HM.out h) Tryz.underlying23 rfl HIY.out) hHeld ?_
  simp only [Act.put, nrm]
  refine tke 2 (.agg ((yl).map bval).toArray) rfl (yieldsIf_load_mid (by rfl) _ _ rfl A 0 rfl _ _ (fun w h => zbe HM.out h) Tryz.underlying23 rfl HIY.out) hHeld ?_
  simp only [Act.put, nrm]
  refine rdy 1 rfl fun K hK => ?_
  go_simp
  refine (rCanon_num yl _ HYL.out).mono ?_
  rintro e m1 ⟨rfl, b1⟩
  have N1 : Ext wb m1 := B0.trans b1
  refine hK.out _ _ N1 (fun hHeld => ?_)
  clear hK K
  try simp only [Act.put, nrm]
  refine tke 3 (.bool false) rfl (yi_neqB _ _ _ _ _ 32 _ (nb ((leN yl : Nat) : Int)) (yl) false (by rfl) rfl (decide_eq_true hcn) Tryz.underlying23 Tryz.underlying5 zcv zck zco rfl rfl (nbc_length _) (HYL.out)) hHeld ?_
  simp only [Act.put, nrm]
  refine dne ?_
  have hNN := jh (N1 : Ext wb m1)
  have HM := jh (zaa HM.out hNN.out)
  have HR := jh (zaa HR.out hNN.out)
  have HE := jh (HE.out.trans hNN.out)
  clear hNN
  generalize m1 = wc at *
  clear hcn
  obtain ⟨y, hy⟩ : ∃ y, y = fp ((leN yl : Nat) : Int) := ⟨_, rfl⟩
  go_wp2_with (refine zae rfl _ _ rfl A rfl _ _ _ _ HM.out Tryz.underlying23 HIY.out ?_)
  refine (rin_f yl wc HYL.out).mono ?_
  rintro e wl1 ⟨r, rfl, hr, hb⟩
  obtain ⟨z, hz, lz⟩ := hr.form
  subst hz
  rw [← hy] at hr
  have HM := jh (zaa HM.out hb)
  have HR := jh (zaa HR.out hb)
  have HE := jh (HE.out.trans hb)
  clear hb
  have HYF := jh hy
  clear hy
  have HZ := jh (Blk.made wl1 (ints .i64 (List.replicate 16 0)) 68)
  have HEA := jh (Ext.alloc wl1 (.cells (ints .i64 (List.replicate 16 0)).toArray 68))
  have HI := jh (zau lz)
  have HL : Hid ((ints .i64 z).length = (ints .i64 (List.replicate 16 0)).length) := jh (by rw [zac, lz]; rfl)
  go_upto_region 6 with (refine zab rfl _ _ _ rfl wl1.heap.size (ints .i64 z) rfl rfl _ _ HZ.out HL.out HI.out (zao _ _) ?_; intro wl2 hbm hgm)
  have HX := jh (zad HEA.out hgm (Nat.le_refl _))
  obtain ⟨TYv, hT⟩ : ∃ T, T = wl1.heap.size := ⟨_, rfl⟩
  have HTYv : Hid (A + 1 < TYv) := jh (by rw [hT]; exact HR.out.lt)
  rw [← hT] at hbm ⊢
  have HM := jh (zaa HM.out HX.out)
  have HR := jh (zaa HR.out HX.out)
  have HE := jh (HE.out.trans HX.out)
  have EYv : Hid (ElB wl2 TYv (y)) := jh ⟨z, lz, hbm, hr⟩
  have HO := jh (And.intro HO.out HTYv.out)
  clear hbm hgm HZ HEA HX hT hr HI HL lz
  obtain ⟨zYv, lYv, bYv, eYv⟩ := EYv.out
  have HbYv := jh bYv
  have HeYv := jh eYv
  have HlYv := jh lYv
  have HiYv := jh (zau lYv)
  clear bYv eYv lYv
  go_wp2_with (first | (refine zae rfl _ _ rfl TYv rfl _ _ _ _ HbYv.out Tryz.underlying68 HiYv.out ?_))
  refine (zcn wl2 HeYv.out HeYv.out).mono ?_
  rintro e wl3 ⟨r, rfl, hr, hb⟩
  obtain ⟨z, hz, lz⟩ := hr.form
  subst hz
  have EYv := jh (EYv.out.ext hb)
  have HM := jh (zaa HM.out hb)
  have HR := jh (zaa HR.out hb)
  have HE := jh (HE.out.trans hb)
  clear hb
  have HZ := jh (Blk.made wl3 (ints .i64 (List.replicate 16 0)) 68)
  have HEA := jh (Ext.alloc wl3 (.cells (ints .i64 (List.replicate 16 0)).toArray 68))
  have HI := jh (zau lz)
  have HL : Hid ((ints .i64 z).length = (ints .i64 (List.replicate 16 0)).length) := jh (by rw [zac, lz]; rfl)
  go_upto_region 7 with (refine zab rfl _ _ _ rfl wl3.heap.size (ints .i64 z) rfl rfl _ _ HZ.out HL.out HI.out (zao _ _) ?_; intro wl4 hbm hgm)
  have HX := jh (zad HEA.out hgm (Nat.le_refl _))
  obtain ⟨TYq, hT⟩ : ∃ T, T = wl3.heap.size := ⟨_, rfl⟩
  have HTYq : Hid (TYv < TYq) := jh (by rw [hT]; exact EYv.out.lt)
  rw [← hT] at hbm ⊢
  have EYv := jh (EYv.out.ext HX.out)
  have HM := jh (zaa HM.out HX.out)
  have HR := jh (zaa HR.out HX.out)
  have HE := jh (HE.out.trans HX.out)
  have EYq : Hid (ElB wl4 TYq (y * y)) := jh ⟨z, lz, hbm, hr⟩
  have HO := jh (And.intro HO.out HTYq.out)
  clear hbm hgm HZ HEA HX hT hr HI HL lz
  obtain ⟨zYq, lYq, bYq, eYq⟩ := EYq.out
  have HbYq := jh bYq
  have HeYq := jh eYq
  have HlYq := jh lYq
  have HiYq := jh (zau lYq)
  clear bYq eYq lYq
  try go_wp2_with fail
  try simp only [Act.put, nrm]
  go_cut [7, 8] from 27 to 40 (fun vq vb wq => ∃ g f, vq = .pointer (some ⟨g, 0, none⟩) ∧ vb = .bool (rtB ((y * y - fp 1) * fi (dF * (y * y) + fp 1))) ∧ wl4.heap.size ≤ g ∧ ElB wq g f ∧ (rtB ((y * y - fp 1) * fi (dF * (y * y) + fp 1)) = true → f * f = (y * y - fp 1) * fi (dF * (y * y) + fp 1)) ∧ Ext wl4 wq)
  case first =>
   have B0 : Ext wl4 wl4.drew := Ext.drew _
   refine wp_region_held_drew (S := fun w' => Ext wl4 w') (by kernel_rfl) B0 (fun hHeld => ?_)
   refine tke 0 (.agg (ints .i64 zYq).toArray) rfl (yieldsIf_load_mid (by rfl) _ _ rfl TYq 0 rfl _ _ (fun w h => zbe HbYq.out h) Tryz.underlying68 rfl HiYq.out) hHeld ?_
   simp only [Act.put, nrm]
   refine tke 3 (.agg (ints .i64 dL).toArray) rfl (yieldsIf_load_mid (by rfl) _ _ rfl 2 0 rfl _ _ (fun w h => HGD.out.ext (HE.out.trans h)) Tryz.underlying68 rfl (zau d_el.len)) hHeld ?_
   simp only [Act.put, nrm]
   refine tke 4 (.agg (ints .i64 zYq).toArray) rfl (yieldsIf_load_mid (by rfl) _ _ rfl TYq 0 rfl _ _ (fun w h => zbe HbYq.out h) Tryz.underlying68 rfl HiYq.out) hHeld ?_
   simp only [Act.put, nrm]
   refine wpAnyH_ready (rs := [1, 14]) (by kernel_rfl) (by simp) (AllReadyH.cons rfl (fun K hK => ?_) (AllReadyH.cons rfl (fun K hK => ?_) AllReadyH.nil))
   ·go_simp
    refine (rone_f 1 _ (by omega) (by omega)).mono ?_
    rintro e m1 ⟨v1, rfl, e1, b1⟩
    obtain ⟨z1, hz1, l1⟩ := e1.form
    subst hz1
    have N1 : Ext wl4 m1 := B0.trans b1
    refine hK.out _ _ N1 (fun hHeld => ?_)
    clear hK K
    try simp only [Act.put, nrm]
    refine wpAnyH_ready (rs := [2, 14]) (by kernel_rfl) (by simp) (AllReadyH.cons rfl (fun K hK => ?_) (AllReadyH.cons rfl (fun K hK => ?_) AllReadyH.nil))
    ·go_simp
     refine (rsub_f _ HeYq.out e1).mono ?_
     rintro e m2 ⟨v2, rfl, e2, b2⟩
     obtain ⟨z2, hz2, l2⟩ := e2.form
     subst hz2
     have N2 : Ext wl4 m2 := N1.trans b2
     refine hK.out _ _ N2 (fun hHeld => ?_)
     clear hK K
     try simp only [Act.put, nrm]
     refine wpAnyH_ready (rs := [5, 14]) (by kernel_rfl) (by simp) (AllReadyH.cons rfl (fun K hK => ?_) (AllReadyH.cons rfl (fun K hK => ?_) AllReadyH.nil))
     ·go_simp
      refine (zcn _ d_el.el HeYq.out).mono ?_
      rintro e m3 ⟨v3, rfl, e3, b3⟩
      obtain ⟨z3, hz3, l3⟩ := e3.form
      subst hz3
      have N3 : Ext wl4 m3 := N2.trans b3
      refine hK.out _ _ N3 (fun hHeld => ?_)
      clear hK K
      try simp only [Act.put, nrm]
      refine wpAnyH_ready (rs := [6, 14]) (by kernel_rfl) (by simp) (AllReadyH.cons rfl (fun K hK => ?_) (AllReadyH.cons rfl (fun K hK => ?_) AllReadyH.nil))
      ·go_simp
       refine (rone_f 1 _ (by omega) (by omega)).mono ?_
       rintro e m4 ⟨v4, rfl, e4, b4⟩
       obtain ⟨z4, hz4, l4⟩ := e4.form
       subst hz4
       have N4 : Ext wl4 m4 := N3.trans b4
       refine hK.out _ _ N4 (fun hHeld => ?_)
       clear hK K
       try simp only [Act.put, nrm]
       refine wpAnyH_ready (rs := [7, 14]) (by kernel_rfl) (by simp) (AllReadyH.cons rfl (fun K hK => ?_) (AllReadyH.cons rfl (fun K hK => ?_) AllReadyH.nil))
       ·go_simp
        refine (radd_f _ e3 e4).mono ?_
        rintro e m5 ⟨v5, rfl, e5, b5⟩
        obtain ⟨z5, hz5, l5⟩ := e5.form
        subst hz5
        have N5 : Ext wl4 m5 := N4.trans b5
        refine hK.out _ _ N5 (fun hHeld => ?_)
        clear hK K
        try simp only [Act.put, nrm]
        refine wpAnyH_ready (rs := [8, 14]) (by kernel_rfl) (by simp) (AllReadyH.cons rfl (fun K hK => ?_) (AllReadyH.cons rfl (fun K hK => ?_) AllReadyH.nil))
        ·go_simp
         refine (rinv_f _ e5).mono ?_
         rintro e m6 ⟨v6, rfl, e6, b6⟩
         obtain ⟨z6, hz6, l6⟩ := e6.form
         subst hz6
         have N6 : Ext wl4 m6 := N5.trans b6
         refine hK.out _ _ N6 (fun hHeld => ?_)
         clear hK K
         try simp only [Act.put, nrm]
         refine wpAnyH_ready (rs := [9, 14]) (by kernel_rfl) (by simp) (AllReadyH.cons rfl (fun K hK => ?_) (AllReadyH.cons rfl (fun K hK => ?_) AllReadyH.nil))
         ·go_simp
          refine (zcn _ e2 e6).mono ?_
          rintro e m7 ⟨v7, rfl, e7, b7⟩
          obtain ⟨z7, hz7, l7⟩ := e7.form
          subst hz7
          have N7 : Ext wl4 m7 := N6.trans b7
          refine hK.out _ _ N7 (fun hHeld => ?_)
          clear hK K
          try simp only [Act.put, nrm]
          refine wpAnyH_ready (rs := [10, 14]) (by kernel_rfl) (by simp) (AllReadyH.cons rfl (fun K hK => ?_) (AllReadyH.cons rfl (fun K hK => ?_) AllReadyH.nil))
          ·go_simp
           refine (rroot_f _ e7 (HGR.out.ext (HE.out.trans N7))).mono ?_
           rintro e m8 ⟨v8, f8, rfl, e8, q8, b8⟩
           obtain ⟨z8, hz8, l8⟩ := e8.form
           subst hz8
           have N8 : Ext wl4 m8 := N7.trans b8
           refine hK.out _ _ N8 (fun hHeld => ?_)
           clear hK K
           try simp only [Act.put, nrm]
           refine tke 11 (.tuple #[.agg (ints .i64 z8).toArray, .bool (rtB ((y * y - fp 1) * fi (dF * (y * y) + fp 1)))]) rfl (zcb _ (.tuple #[.agg (ints .i64 z8).toArray, .bool (rtB ((y * y - fp 1) * fi (dF * (y * y) + fp 1)))]) (by rfl) rfl rfl) hHeld ?_
           simp only [Act.put, nrm]
           refine tke 12 (.agg (ints .i64 z8).toArray) rfl (zbl (.agg (ints .i64 z8).toArray) (by rfl) (fun w _ => by go_simp)) hHeld ?_
           simp only [Act.put, nrm]
           refine tke 13 (.bool (rtB ((y * y - fp 1) * fi (dF * (y * y) + fp 1)))) rfl (zbl (.bool (rtB ((y * y - fp 1) * fi (dF * (y * y) + fp 1)))) (by rfl) (fun w _ => by go_simp)) hHeld ?_
           simp only [Act.put, nrm]
           refine rdy 14 rfl fun K hK => ?_
           refine zan (by rfl) ?_
           refine zax (some 7) _ (ints .i64 (List.replicate 16 0)) rfl rfl Tryz.zeroValue68 ?_
           obtain ⟨m9, hm9⟩ : ∃ wNew, wNew = World.alloc m8 (.cells ((ints .i64 (List.replicate 16 0))).toArray 68) := ⟨_, rfl⟩
           rw [← hm9]
           have b9 : Ext m8 m9 := by rw [hm9]; exact Ext.alloc _ _
           obtain ⟨g9, hg9⟩ : ∃ gNew, gNew = (m8).heap.size := ⟨_, rfl⟩
           rw [← hg9]
           have z9 : Blk m9 g9 (ints .i64 (List.replicate 16 0)) 68 := by rw [hm9, hg9]; exact Blk.made _ _ _
           have l9 : (wl4).heap.size ≤ g9 := by rw [hg9]; exact N8.size
           clear hm9 hg9
           have N9 : Ext wl4 m9 := N8.trans b9
           refine hK.out _ _ N9 (fun hHeld => ?_)
           clear hK K
           try simp only [Act.put, nrm]
           refine rdy 15 rfl fun K hK => ?_
           refine zan (by rfl) ?_
           refine zak _ _ _ rfl g9 (ints .i64 z8) rfl rfl _ _ z9 (by rw [zac, l8]; rfl) (zau l8) (zao _ _) ?_
           intro m10 hb10 hg10
           have N10 : Ext wl4 m10 := zad N9 hg10 l9
           refine hK.out _ _ N10 (fun hHeld => ?_)
           clear hK K
           try simp only [Act.put, nrm]
           refine rdy 16 rfl fun K hK => ?_
           go_simp
           refine hK.out _ _ N10 (fun hHeld => ?_)
           clear hK K
           try simp only [Act.put, nrm]
           refine dne ?_
           go_wp2_with fail
           go_meet
           exact ⟨_, f8, rfl, rfl, l9, ⟨z8, l8, hb10, e8⟩, q8, N10⟩
          ·refine zan (by rfl) ?_
           refine zax (some 7) _ (ints .i64 (List.replicate 16 0)) rfl rfl Tryz.zeroValue68 ?_
           obtain ⟨m8, hm8⟩ : ∃ wNew, wNew = World.alloc m7 (.cells ((ints .i64 (List.replicate 16 0))).toArray 68) := ⟨_, rfl⟩
           rw [← hm8]
           have b8 : Ext m7 m8 := by rw [hm8]; exact Ext.alloc _ _
           obtain ⟨g8, hg8⟩ : ∃ gNew, gNew = (m7).heap.size := ⟨_, rfl⟩
           rw [← hg8]
           have z8 : Blk m8 g8 (ints .i64 (List.replicate 16 0)) 68 := by rw [hm8, hg8]; exact Blk.made _ _ _
           have l8 : (wl4).heap.size ≤ g8 := by rw [hg8]; exact N7.size
           clear hm8 hg8
           have N8 : Ext wl4 m8 := N7.trans b8
           refine hK.out _ _ N8 (fun hHeld => ?_)
           clear hK K
           try simp only [Act.put, nrm]
           refine rdy 10 rfl fun K hK => ?_
           go_simp
           refine (rroot_f _ e7 (HGR.out.ext (HE.out.trans N8))).mono ?_
           rintro e m9 ⟨v9, f9, rfl, e9, q9, b9⟩
           obtain ⟨z9, hz9, l9⟩ := e9.form
           subst hz9
           have z8 := z8.below b9
           have N9 : Ext wl4 m9 := N8.trans b9
           refine hK.out _ _ N9 (fun hHeld => ?_)
           clear hK K
           try simp only [Act.put, nrm]
           refine tke 11 (.tuple #[.agg (ints .i64 z9).toArray, .bool (rtB ((y * y - fp 1) * fi (dF * (y * y) + fp 1)))]) rfl (zcb _ (.tuple #[.agg (ints .i64 z9).toArray, .bool (rtB ((y * y - fp 1) * fi (dF * (y * y) + fp 1)))]) (by rfl) rfl rfl) hHeld ?_
           simp only [Act.put, nrm]
           refine tke 12 (.agg (ints .i64 z9).toArray) rfl (zbl (.agg (ints .i64 z9).toArray) (by rfl) (fun w _ => by go_simp)) hHeld ?_
           simp only [Act.put, nrm]
           refine tke 13 (.bool (rtB ((y * y - fp 1) * fi (dF * (y * y) + fp 1)))) rfl (zbl (.bool (rtB ((y * y - fp 1) * fi (dF * (y * y) + fp 1)))) (by rfl) (fun w _ => by go_simp)) hHeld ?_
           simp only [Act.put, nrm]
           refine rdy 15 rfl fun K hK => ?_
           refine zan (by rfl) ?_
           refine zak _ _ _ rfl g8 (ints .i64 z9) rfl rfl _ _ z8 (by rw [zac, l9]; rfl) (zau l9) (zao _ _) ?_
           intro m10 hb10 hg10
           have N10 : Ext wl4 m10 := zad N9 hg10 l8
           refine hK.out _ _ N10 (fun hHeld => ?_)
           clear hK K
           try simp only [Act.put, nrm]
           refine rdy 16 rfl fun K hK => ?_
           go_simp
           refine hK.out _ _ N10 (fun hHeld => ?_)
           clear hK K
           try simp only [Act.put, nrm]
           refine dne ?_
           go_wp2_with fail
           go_meet
           exact ⟨_, f9, rfl, rfl, l8, ⟨z9, l9, hb10, e9⟩, q9, N10⟩
         ·refine zan (by rfl) ?_
          refine zax (some 7) _ (ints .i64 (List.replicate 16 0)) rfl rfl Tryz.zeroValue68 ?_
          obtain ⟨m7, hm7⟩ : ∃ wNew, wNew = World.alloc m6 (.cells ((ints .i64 (List.replicate 16 0))).toArray 68) := ⟨_, rfl⟩
          rw [← hm7]
          have b7 : Ext m6 m7 := by rw [hm7]; exact Ext.alloc _ _
          obtain ⟨g7, hg7⟩ : ∃ gNew, gNew = (m6).heap.size := ⟨_, rfl⟩
          rw [← hg7]
          have z7 : Blk m7 g7 (ints .i64 (List.replicate 16 0)) 68 := by rw [hm7, hg7]; exact Blk.made _ _ _
          have l7 : (wl4).heap.size ≤ g7 := by rw [hg7]; exact N6.size
          clear hm7 hg7
          have N7 : Ext wl4 m7 := N6.trans b7
          refine hK.out _ _ N7 (fun hHeld => ?_)
          clear hK K
          try simp only [Act.put, nrm]
          refine rdy 9 rfl fun K hK => ?_
          go_simp
          refine (zcn _ e2 e6).mono ?_
          rintro e m8 ⟨v8, rfl, e8, b8⟩
          obtain ⟨z8, hz8, l8⟩ := e8.form
          subst hz8
          have z7 := z7.below b8
          have N8 : Ext wl4 m8 := N7.trans b8
          refine hK.out _ _ N8 (fun hHeld => ?_)
          clear hK K
          try simp only [Act.put, nrm]
          refine rdy 10 rfl fun K hK => ?_
          go_simp
          refine (rroot_f _ e8 (HGR.out.ext (HE.out.trans N8))).mono ?_
          rintro e m9 ⟨v9, f9, rfl, e9, q9, b9⟩
          obtain ⟨z9, hz9, l9⟩ := e9.form
          subst hz9
          have z7 := z7.below b9
          have N9 : Ext wl4 m9 := N8.trans b9
          refine hK.out _ _ N9 (fun hHeld => ?_)
          clear hK K
          try simp only [Act.put, nrm]
          refine tke 11 (.tuple #[.agg (ints .i64 z9).toArray, .bool (rtB ((y * y - fp 1) * fi (dF * (y * y) + fp 1)))]) rfl (zcb _ (.tuple #[.agg (ints .i64 z9).toArray, .bool (rtB ((y * y - fp 1) * fi (dF * (y * y) + fp 1)))]) (by rfl) rfl rfl) hHeld ?_
          simp only [Act.put, nrm]
          refine tke 12 (.agg (ints .i64 z9).toArray) rfl (zbl (.agg (ints .i64 z9).toArray) (by rfl) (fun w _ => by go_simp)) hHeld ?_
          simp only [Act.put, nrm]
          refine tke 13 (.bool (rtB ((y * y - fp 1) * fi (dF * (y * y) + fp 1)))) rfl (zbl (.bool (rtB ((y * y - fp 1) * fi (dF * (y * y) + fp 1)))) (by rfl) (fun w _ => by go_simp)) hHeld ?_
          simp only [Act.put, nrm]
          refine rdy 15 rfl fun K hK => ?_
          refine zan (by rfl) ?_
          refine zak _ _ _ rfl g7 (ints .i64 z9) rfl rfl _ _ z7 (by rw [zac, l9]; rfl) (zau l9) (zao _ _) ?_
          intro m10 hb10 hg10
          have N10 : Ext wl4 m10 := zad N9 hg10 l7
          refine hK.out _ _ N10 (fun hHeld => ?_)
          clear hK K
          try simp only [Act.put, nrm]
          refine rdy 16 rfl fun K hK => ?_
          go_simp
          refine hK.out _ _ N10 (fun hHeld => ?_)
          clear hK K
          try simp only [Act.put, nrm]
          refine dne ?_
          go_wp2_with fail
          go_meet
          exact ⟨_, f9, rfl, rfl, l7, ⟨z9, l9, hb10, e9⟩, q9, N10⟩
        ·refine zan (by rfl) ?_
         refine zax (some 7) _ (ints .i64 (List.replicate 16 0)) rfl rfl Tryz.zeroValue68 ?_
         obtain ⟨m6, hm6⟩ : ∃ wNew, wNew = World.alloc m5 (.cells ((ints .i64 (List.replicate 16 0))).toArray 68) := ⟨_, rfl⟩
         rw [← hm6]
         have b6 : Ext m5 m6 := by rw [hm6]; exact Ext.alloc _ _
         obtain ⟨g6, hg6⟩ : ∃ gNew, gNew = (m5).heap.size := ⟨_, rfl⟩
         rw [← hg6]
         have z6 : Blk m6 g6 (ints .i64 (List.replicate 16 0)) 68 := by rw [hm6, hg6]; exact Blk.made _ _ _
         have l6 : (wl4).heap.size ≤ g6 := by rw [hg6]; exact N5.size
         clear hm6 hg6
         have N6 : Ext wl4 m6 := N5.trans b6
         refine hK.out _ _ N6 (fun hHeld => ?_)
         clear hK K
         try simp only [Act.put, nrm]
         refine rdy 8 rfl fun K hK => ?_
         go_simp
         refine (rinv_f _ e5).mono ?_
         rintro e m7 ⟨v7, rfl, e7, b7⟩
         obtain ⟨z7, hz7, l7⟩ := e7.form
         subst hz7
         have z6 := z6.below b7
         have N7 : Ext wl4 m7 := N6.trans b7
         refine hK.out _ _ N7 (fun hHeld => ?_)
         clear hK K
         try simp only [Act.put, nrm]
         refine rdy 9 rfl fun K hK => ?_
         go_simp
         refine (zcn _ e2 e7).mono ?_
         rintro e m8 ⟨v8, rfl, e8, b8⟩
         obtain ⟨z8, hz8, l8⟩ := e8.form
         subst hz8
         have z6 := z6.below b8
         have N8 : Ext wl4 m8 := N7.trans b8
         refine hK.out _ _ N8 (fun hHeld => ?_)
         clear hK K
         try simp only [Act.put, nrm]
         refine rdy 10 rfl fun K hK => ?_
         go_simp
         refine (rroot_f _ e8 (HGR.out.ext (HE.out.trans N8))).mono ?_
         rintro e m9 ⟨v9, f9, rfl, e9, q9, b9⟩
         obtain ⟨z9, hz9, l9⟩ := e9.form
         subst hz9
         have z6 := z6.below b9
         have N9 : Ext wl4 m9 := N8.trans b9
         refine hK.out _ _ N9 (fun hHeld => ?_)
         clear hK K
         try simp only [Act.put, nrm]
         refine tke 11 (.tuple #[.agg (ints .i64 z9).toArray, .bool (rtB ((y * y - fp 1) * fi (dF * (y * y) + fp 1)))]) rfl (zcb _ (.tuple #[.agg (ints .i64 z9).toArray, .bool (rtB ((y * y - fp 1) * fi (dF * (y * y) + fp 1)))]) (by rfl) rfl rfl) hHeld ?_
         simp only [Act.put, nrm]
         refine tke 12 (.agg (ints .i64 z9).toArray) rfl (zbl (.agg (ints .i64 z9).toArray) (by rfl) (fun w _ => by go_simp)) hHeld ?_
         simp only [Act.put, nrm]
         refine tke 13 (.bool (rtB ((y * y - fp 1) * fi (dF * (y * y) + fp 1)))) rfl (zbl (.bool (rtB ((y * y - fp 1) * fi (dF * (y * y) + fp 1)))) (by rfl) (fun w _ => by go_simp)) hHeld ?_
         simp only [Act.put, nrm]
         refine rdy 15 rfl fun K hK => ?_
         refine zan (by rfl) ?_
         refine zak _ _ _ rfl g6 (ints .i64 z9) rfl rfl _ _ z6 (by rw [zac, l9]; rfl) (zau l9) (zao _ _) ?_
         intro m10 hb10 hg10
         have N10 : Ext wl4 m10 := zad N9 hg10 l6
         refine hK.out _ _ N10 (fun hHeld => ?_)
         clear hK K
         try simp only [Act.put, nrm]
         refine rdy 16 rfl fun K hK => ?_
         go_simp
         refine hK.out _ _ N10 (fun hHeld => ?_)
         clear hK K
         try simp only [Act.put, nrm]
         refine dne ?_
         go_wp2_with fail
         go_meet
         exact ⟨_, f9, rfl, rfl, l6, ⟨z9, l9, hb10, e9⟩, q9, N10⟩
       ·refine zan (by rfl) ?_
        refine zax (some 7) _ (ints .i64 (List.replicate 16 0)) rfl rfl Tryz.zeroValue68 ?_
        obtain ⟨m5, hm5⟩ : ∃ wNew, wNew = World.alloc m4 (.cells ((ints .i64 (List.replicate 16 0))).toArray 68) := ⟨_, rfl⟩
        rw [← hm5]
        have b5 : Ext m4 m5 := by rw [hm5]; exact Ext.alloc _ _
        obtain ⟨g5, hg5⟩ : ∃ gNew, gNew = (m4).heap.size := ⟨_, rfl⟩
        rw [← hg5]
        have z5 : Blk m5 g5 (ints .i64 (List.replicate 16 0)) 68 := by rw [hm5, hg5]; exact Blk.made _ _ _
        have l5 : (wl4).heap.size ≤ g5 := by rw [hg5]; exact N4.size
        clear hm5 hg5
        have N5 : Ext wl4 m5 := N4.trans b5
        refine hK.out _ _ N5 (fun hHeld => ?_)
        clear hK K
        try simp only [Act.put, nrm]
        refine rdy 7 rfl fun K hK => ?_
        go_simp
        refine (radd_f _ e3 e4).mono ?_
        rintro e m6 ⟨v6, rfl, e6, b6⟩
        obtain ⟨z6, hz6, l6⟩ := e6.form
        subst hz6
        have z5 := z5.below b6
        have N6 : Ext wl4 m6 := N5.trans b6
        refine hK.out _ _ N6 (fun hHeld => ?_)
        clear hK K
        try simp only [Act.put, nrm]
        refine rdy 8 rfl fun K hK => ?_
        go_simp
        refine (rinv_f _ e6).mono ?_
        rintro e m7 ⟨v7, rfl, e7, b7⟩
        obtain ⟨z7, hz7, l7⟩ := e7.form
        subst hz7
        have z5 := z5.below b7
        have N7 : Ext wl4 m7 := N6.trans b7
        refine hK.out _ _ N7 (fun hHeld => ?_)
        clear hK K
        try simp only [Act.put, nrm]
        refine rdy 9 rfl fun K hK => ?_
        go_simp
        refine (zcn _ e2 e7).mono ?_
        rintro e m8 ⟨v8, rfl, e8, b8⟩
        obtain ⟨z8, hz8, l8⟩ := e8.form
        subst hz8
        have z5 := z5.below b8
        have N8 : Ext wl4 m8 := N7.trans b8
        refine hK.out _ _ N8 (fun hHeld => ?_)
        clear hK K
        try simp only [Act.put, nrm]
        refine rdy 10 rfl fun K hK => ?_
        go_simp
        refine (rroot_f _ e8 (HGR.out.ext (HE.out.trans N8))).mono ?_
        rintro e m9 ⟨v9, f9, rfl, e9, q9, b9⟩
        obtain ⟨z9, hz9, l9⟩ := e9.form
        subst hz9
        have z5 := z5.below b9
        have N9 : Ext wl4 m9 := N8.trans b9
        refine hK.out _ _ N9 (fun hHeld => ?_)
        clear hK K
        try simp only [Act.put, nrm]
        refine tke 11 (.tuple #[.agg (ints .i64 z9).toArray, .bool (rtB ((y * y - fp 1) * fi (dF * (y * y) + fp 1)))]) rfl (zcb _ (.tuple #[.agg (ints .i64 z9).toArray, .bool (rtB ((y * y - fp 1) * fi (dF * (y * y) + fp 1)))]) (by rfl) rfl rfl) hHeld ?_
        simp only [Act.put, nrm]
        refine tke 12 (.agg (ints .i64 z9).toArray) rfl (zbl (.agg (ints .i64 z9).toArray) (by rfl) (fun w _ => by go_simp)) hHeld ?_
        simp only [Act.put, nrm]
        refine tke 13 (.bool (rtB ((y * y - fp 1) * fi (dF * (y * y) + fp 1)))) rfl (zbl (.bool (rtB ((y * y - fp 1) * fi (dF * (y * y) + fp 1)))) (by rfl) (fun w _ => by go_simp)) hHeld ?_
        simp only [Act.put, nrm]
        refine rdy 15 rfl fun K hK => ?_
        refine zan (by rfl) ?_
        refine zak _ _ _ rfl g5 (ints .i64 z9) rfl rfl _ _ z5 (by rw [zac, l9]; rfl) (zau l9) (zao _ _) ?_
        intro m10 hb10 hg10
        have N10 : Ext wl4 m10 := zad N9 hg10 l5
        refine hK.out _ _ N10 (fun hHeld => ?_)
        clear hK K
        try simp only [Act.put, nrm]
        refine rdy 16 rfl fun K hK => ?_
        go_simp
        refine hK.out _ _ N10 (fun hHeld => ?_)
        clear hK K
        try simp only [Act.put, nrm]
        refine dne ?_
        go_wp2_with fail
        go_meet
        exact ⟨_, f9, rfl, rfl, l5, ⟨z9, l9, hb10, e9⟩, q9, N10⟩
      ·refine zan (by rfl) ?_
       refine zax (some 7) _ (ints .i64 (List.replicate 16 0)) rfl rfl Tryz.zeroValue68 ?_
       obtain ⟨m4, hm4⟩ : ∃ wNew, wNew = World.alloc m3 (.cells ((ints .i64 (List.replicate 16 0))).toArray 68) := ⟨_, rfl⟩
       rw [← hm4]
       have b4 : Ext m3 m4 := by rw [hm4]; exact Ext.alloc _ _
       obtain ⟨g4, hg4⟩ : ∃ gNew, gNew = (m3).heap.size := ⟨_, rfl⟩
       rw [← hg4]
       have z4 : Blk m4 g4 (ints .i64 (List.replicate 16 0)) 68 := by rw [hm4, hg4]; exact Blk.made _ _ _
       have l4 : (wl4).heap.size ≤ g4 := by rw [hg4]; exact N3.size
       clear hm4 hg4
       have N4 : Ext wl4 m4 := N3.trans b4
       refine hK.out _ _ N4 (fun hHeld => ?_)
       clear hK K
       try simp only [Act.put, nrm]
       refine rdy 6 rfl fun K hK => ?_
       go_simp
       refine (rone_f 1 _ (by omega) (by omega)).mono ?_
       rintro e m5 ⟨v5, rfl, e5, b5⟩
       obtain ⟨z5, hz5, l5⟩ := e5.form
       subst hz5
       have z4 := z4.below b5
       have N5 : Ext wl4 m5 := N4.trans b5
       refine hK.out _ _ N5 (fun hHeld => ?_)
       clear hK K
       try simp only [Act.put, nrm]
       refine rdy 7 rfl fun K hK => ?_
       go_simp
       refine (radd_f _ e3 e5).mono ?_
       rintro e m6 ⟨v6, rfl, e6, b6⟩
       obtain ⟨z6, hz6, l6⟩ := e6.form
       subst hz6
       have z4 := z4.below b6
       have N6 : Ext wl4 m6 := N5.trans b6
       refine hK.out _ _ N6 (fun hHeld => ?_)
       clear hK K
       try simp only [Act.put, nrm]
       refine rdy 8 rfl fun K hK => ?_
       go_simp
       refine (rinv_f _ e6).mono ?_
       rintro e m7 ⟨v7, rfl, e7, b7⟩
       obtain ⟨z7, hz7, l7⟩ := e7.form
       subst hz7
       have z4 := z4.below b7
       have N7 : Ext wl4 m7 := N6.trans b7
       refine hK.out _ _ N7 (fun hHeld => ?_)
       clear hK K
       try simp only [Act.put, nrm]
       refine rdy 9 rfl fun K hK => ?_
       go_simp
       refine (zcn _ e2 e7).mono ?_
       rintro e m8 ⟨v8, rfl, e8, b8⟩
       obtain ⟨z8, hz8, l8⟩ := e8.form
       subst hz8
       have z4 := z4.below b8
       have N8 : Ext wl4 m8 := N7.trans b8
       refine hK.out _ _ N8 (fun hHeld => ?_)
       clear hK K
       try simp only [Act.put, nrm]
       refine rdy 10 rfl fun K hK => ?_
       go_simp
       refine (rroot_f _ e8 (HGR.out.ext (HE.out.trans N8))).mono ?_
       rintro e m9 ⟨v9, f9, rfl, e9, q9, b9⟩
       obtain ⟨z9, hz9, l9⟩ := e9.form
       subst hz9
       have z4 := z4.below b9
       have N9 : Ext wl4 m9 := N8.trans b9
       refine hK.out _ _ N9 (fun hHeld => ?_)
       clear hK K
       try simp only [Act.put, nrm]
       refine tke 11 (.tuple #[.agg (ints .i64 z9).toArray, .bool (rtB ((y * y - fp 1) * fi (dF * (y * y) + fp 1)))]) rfl (zcb _ (.tuple #[.agg (ints .i64 z9).toArray, .bool (rtB ((y * y - fp 1) * fi (dF * (y * y) + fp 1)))]) (by rfl) rfl rfl) hHeld ?_
       simp only [Act.put, nrm]
       refine tke 12 (.agg (ints .i64 z9).toArray) rfl (zbl (.agg (ints .i64 z9).toArray) (by rfl) (fun w _ => by go_simp)) hHeld ?_
       simp only [Act.put, nrm]
       refine tke 13 (.bool (rtB ((y * y - fp 1) * fi (dF * (y * y) + fp 1)))) rfl (zbl (.bool (rtB ((y * y - fp 1) * fi (dF * (y * y) + fp 1)))) (by rfl) (fun w _ => by go_simp)) hHeld ?_
       simp only [Act.put, nrm]
       refine rdy 15 rfl fun K hK => ?_
       refine zan (by rfl) ?_
       refine zak _ _ _ rfl g4 (ints .i64 z9) rfl rfl _ _ z4 (by rw [zac, l9]; rfl) (zau l9) (zao _ _) ?_
       intro m10 hb10 hg10
       have N10 : Ext wl4 m10 := zad N9 hg10 l4
       refine hK.out _ _ N10 (fun hHeld => ?_)
       clear hK K
       try simp only [Act.put, nrm]
       refine rdy 16 rfl fun K hK => ?_
       go_simp
       refine hK.out _ _ N10 (fun hHeld => ?_)
       clear hK K
       try simp only [Act.put, nrm]
       refine dne ?_
       go_wp2_with fail
       go_meet
       exact ⟨_, f9, rfl, rfl, l4, ⟨z9, l9, hb10, e9⟩, q9, N10⟩
     ·refine zan (by rfl) ?_
      refine zax (some 7) _ (ints .i64 (List.replicate 16 0)) rfl rfl Tryz.zeroValue68 ?_
      obtain ⟨m3, hm3⟩ : ∃ wNew, wNew = World.alloc m2 (.cells ((ints .i64 (List.replicate 16 0))).toArray 68) := ⟨_, rfl⟩
      rw [← hm3]
      have b3 : Ext m2 m3 := by rw [hm3]; exact Ext.alloc _ _
      obtain ⟨g3, hg3⟩ : ∃ gNew, gNew = (m2).heap.size := ⟨_, rfl⟩
      rw [← hg3]
      have z3 : Blk m3 g3 (ints .i64 (List.replicate 16 0)) 68 := by rw [hm3, hg3]; exact Blk.made _ _ _
      have l3 : (wl4).heap.size ≤ g3 := by rw [hg3]; exact N2.size
      clear hm3 hg3
      have N3 : Ext wl4 m3 := N2.trans b3
      refine hK.out _ _ N3 (fun hHeld => ?_)
      clear hK K
      try simp only [Act.put, nrm]
      refine rdy 5 rfl fun K hK => ?_
      go_simp
      refine (zcn _ d_el.el HeYq.out).mono ?_
      rintro e m4 ⟨v4, rfl, e4, b4⟩
      obtain ⟨z4, hz4, l4⟩ := e4.form
      subst hz4
      have z3 := z3.below b4
      have N4 : Ext wl4 m4 := N3.trans b4
      refine hK.out _ _ N4 (fun hHeld => ?_)
      clear hK K
      try simp only [Act.put, nrm]
      refine rdy 6 rfl fun K hK => ?_
      go_simp
      refine (rone_f 1 _ (by omega) (by omega)).mono ?_
      rintro e m5 ⟨v5, rfl, e5, b5⟩
      obtain ⟨z5, hz5, l5⟩ := e5.form
      subst hz5
      have z3 := z3.below b5
      have N5 : Ext wl4 m5 := N4.trans b5
      refine hK.out _ _ N5 (fun hHeld => ?_)
      clear hK K
      try simp only [Act.put, nrm]
      refine rdy 7 rfl fun K hK => ?_
      go_simp
      refine (radd_f _ e4 e5).mono ?_
      rintro e m6 ⟨v6, rfl, e6, b6⟩
      obtain ⟨z6, hz6, l6⟩ := e6.form
      subst hz6
      have z3 := z3.below b6
      have N6 : Ext wl4 m6 := N5.trans b6
      refine hK.out _ _ N6 (fun hHeld => ?_)
      clear hK K
      try simp only [Act.put, nrm]
      refine rdy 8 rfl fun K hK => ?_
      go_simp
      refine (rinv_f _ e6).mono ?_
      rintro e m7 ⟨v7, rfl, e7, b7⟩
      obtain ⟨z7, hz7, l7⟩ := e7.form
      subst hz7
      have z3 := z3.below b7
      have N7 : Ext wl4 m7 := N6.trans b7
      refine hK.out _ _ N7 (fun hHeld => ?_)
      clear hK K
      try simp only [Act.put, nrm]
      refine rdy 9 rfl fun K hK => ?_
      go_simp
      refine (zcn _ e2 e7).mono ?_
      rintro e m8 ⟨v8, rfl, e8, b8⟩
      obtain ⟨z8, hz8, l8⟩ := e8.form
      subst hz8
      have z3 := z3.below b8
      have N8 : Ext wl4 m8 := N7.trans b8
      refine hK.out _ _ N8 (fun hHeld => ?_)
      clear hK K
      try simp only [Act.put, nrm]
      refine rdy 10 rfl fun K hK => ?_
      go_simp
      refine (rroot_f _ e8 (HGR.out.ext (HE.out.trans N8))).mono ?_
      rintro e m9 ⟨v9, f9, rfl, e9, q9, b9⟩
      obtain ⟨z9, hz9, l9⟩ := e9.form
      subst hz9
      have z3 := z3.below b9
      have N9 : Ext wl4 m9 := N8.trans b9
      refine hK.out _ _ N9 (fun hHeld => ?_)
      clear hK K
      try simp only [Act.put, nrm]
      refine tke 11 (.tuple #[.agg (ints .i64 z9).toArray, .bool (rtB ((y * y - fp 1) * fi (dF * (y * y) + fp 1)))]) rfl (zcb _ (.tuple #[.agg (ints .i64 z9).toArray, .bool (rtB ((y * y - fp 1) * fi (dF * (y * y) + fp 1)))]) (by rfl) rfl rfl) hHeld ?_
      simp only [Act.put, nrm]
      refine tke 12 (.agg (ints .i64 z9).toArray) rfl (zbl (.agg (ints .i64 z9).toArray) (by rfl) (fun w _ => by go_simp)) hHeld ?_
      simp only [Act.put, nrm]
      refine tke 13 (.bool (rtB ((y * y - fp 1) * fi (dF * (y * y) + fp 1)))) rfl (zbl (.bool (rtB ((y * y - fp 1) * fi (dF * (y * y) + fp 1)))) (by rfl) (fun w _ => by go_simp)) hHeld ?_
      simp only [Act.put, nrm]
      refine rdy 15 rfl fun K hK => ?_
      refine zan (by rfl) ?_
      refine zak _ _ _ rfl g3 (ints .i64 z9) rfl rfl _ _ z3 (by rw [zac, l9]; rfl) (zau l9) (zao _ _) ?_
      intro m10 hb10 hg10
      have N10 : Ext wl4 m10 := zad N9 hg10 l3
      refine hK.out _ _ N10 (fun hHeld => ?_)
      clear hK K
      try simp only [Act.put, nrm]
      refine rdy 16 rfl fun K hK => ?_
      go_simp
      refine hK.out _ _ N10 (fun hHeld => ?_)
      clear hK K
      try simp only [Act.put, nrm]
      refine dne ?_
      go_wp2_with fail
      go_meet
      exact ⟨_, f9, rfl, rfl, l3, ⟨z9, l9, hb10, e9⟩, q9, N10⟩
    ·refine zan (by rfl) ?_
     refine zax (some 7) _ (ints .i64 (List.replicate 16 0)) rfl rfl Tryz.zeroValue68 ?_
     obtain ⟨m2, hm2⟩ : ∃ wNew, wNew = World.alloc m1 (.cells ((ints .i64 (List.replicate 16 0))).toArray 68) := ⟨_, rfl⟩
     rw [← hm2]
     have b2 : Ext m1 m2 := by rw [hm2]; exact Ext.alloc _ _
     obtain ⟨g2, hg2⟩ : ∃ gNew, gNew = (m1).heap.size := ⟨_, rfl⟩
     rw [← hg2]
     have z2 : Blk m2 g2 (ints .i64 (List.replicate 16 0)) 68 := by rw [hm2, hg2]; exact Blk.made _ _ _
     have l2 : (wl4).heap.size ≤ g2 := by rw [hg2]; exact N1.size
     clear hm2 hg2
     have N2 : Ext wl4 m2 := N1.trans b2
     refine hK.out _ _ N2 (fun hHeld => ?_)
     clear hK K
     try simp only [Act.put, nrm]
     refine rdy 2 rfl fun K hK => ?_
     go_simp
     refine (rsub_f _ HeYq.out e1).mono ?_
     rintro e m3 ⟨v3, rfl, e3, b3⟩
     obtain ⟨z3, hz3, l3⟩ := e3.form
     subst hz3
     have z2 := z2.below b3
     have N3 : Ext wl4 m3 := N2.trans b3
     refine hK.out _ _ N3 (fun hHeld => ?_)
     clear hK K
     try simp only [Act.put, nrm]
     refine rdy 5 rfl fun K hK => ?_
     go_simp
     refine (zcn _ d_el.el HeYq.out).mono ?_
     rintro e m4 ⟨v4, rfl, e4, b4⟩
     obtain ⟨z4, hz4, l4⟩ := e4.form
     subst hz4
     have z2 := z2.below b4
     have N4 : Ext wl4 m4 := N3.trans b4
     refine hK.out _ _ N4 (fun hHeld => ?_)
     clear hK K
     try simp only [Act.put, nrm]
     refine rdy 6 rfl fun K hK => ?_
     go_simp
     refine (rone_f 1 _ (by omega) (by omega)).mono ?_
     rintro e m5 ⟨v5, rfl, e5, b5⟩
     obtain ⟨z5, hz5, l5⟩ := e5.form
     subst hz5
     have z2 := z2.below b5
     have N5 : Ext wl4 m5 := N4.trans b5
     refine hK.out _ _ N5 (fun hHeld => ?_)
     clear hK K
     try simp only [Act.put, nrm]
     refine rdy 7 rfl fun K hK => ?_
     go_simp
     refine (radd_f _ e4 e5).mono ?_
     rintro e m6 ⟨v6, rfl, e6, b6⟩
     obtain ⟨z6, hz6, l6⟩ := e6.form
     subst hz6
     have z2 := z2.below b6
     have N6 : Ext wl4 m6 := N5.trans b6
     refine hK.out _ _ N6 (fun hHeld => ?_)
     clear hK K
     try simp only [Act.put, nrm]
     refine rdy 8 rfl fun K hK => ?_
     go_simp
     refine (rinv_f _ e6).mono ?_
     rintro e m7 ⟨v7, rfl, e7, b7⟩
     obtain ⟨z7, hz7, l7⟩ := e7.form
     subst hz7
     have z2 := z2.below b7
     have N7 : Ext wl4 m7 := N6.trans b7
     refine hK.out _ _ N7 (fun hHeld => ?_)
     clear hK K
     try simp only [Act.put, nrm]
     refine rdy 9 rfl fun K hK => ?_
     go_simp
     refine (zcn _ e3 e7).mono ?_
     rintro e m8 ⟨v8, rfl, e8, b8⟩
     obtain ⟨z8, hz8, l8⟩ := e8.form
     subst hz8
     have z2 := z2.below b8
     have N8 : Ext wl4 m8 := N7.trans b8
     refine hK.out _ _ N8 (fun hHeld => ?_)
     clear hK K
     try simp only [Act.put, nrm]
     refine rdy 10 rfl fun K hK => ?_
     go_simp
     refine (rroot_f _ e8 (HGR.out.ext (HE.out.trans N8))).mono ?_
     rintro e m9 ⟨v9, f9, rfl, e9, q9, b9⟩
     obtain ⟨z9, hz9, l9⟩ := e9.form
     subst hz9
     have z2 := z2.below b9
     have N9 : Ext wl4 m9 := N8.trans b9
     refine hK.out _ _ N9 (fun hHeld => ?_)
     clear hK K
     try simp only [Act.put, nrm]
     refine tke 11 (.tuple #[.agg (ints .i64 z9).toArray, .bool (rtB ((y * y - fp 1) * fi (dF * (y * y) + fp 1)))]) rfl (zcb _ (.tuple #[.agg (ints .i64 z9).toArray, .bool (rtB ((y * y - fp 1) * fi (dF * (y * y) + fp 1)))]) (by rfl) rfl rfl) hHeld ?_
     simp only [Act.put, nrm]
     refine tke 12 (.agg (ints .i64 z9).toArray) rfl (zbl (.agg (ints .i64 z9).toArray) (by rfl) (fun w _ => by go_simp)) hHeld ?_
     simp only [Act.put, nrm]
     refine tke 13 (.bool (rtB ((y * y - fp 1) * fi (dF * (y * y) + fp 1)))) rfl (zbl (.bool (rtB ((y * y - fp 1) * fi (dF * (y * y) + fp 1)))) (by rfl) (fun w _ => by go_simp)) hHeld ?_
     simp only [Act.put, nrm]
     refine rdy 15 rfl fun K hK => ?_
     refine zan (by rfl) ?_
     refine zak _ _ _ rfl g2 (ints .i64 z9) rfl rfl _ _ z2 (by rw [zac, l9]; rfl) (zau l9) (zao _ _) ?_
     intro m10 hb10 hg10
     have N10 : Ext wl4 m10 := zad N9 hg10 l2
     refine hK.out _ _ N10 (fun hHeld => ?_)
     clear hK K
     try simp only [Act.put, nrm]
     refine rdy 16 rfl fun K hK => ?_
     go_simp
     refine hK.out _ _ N10 (fun hHeld => ?_)
     clear hK K
     try simp only [Act.put, nrm]
     refine dne ?_
     go_wp2_with fail
     go_meet
     exact ⟨_, f9, rfl, rfl, l2, ⟨z9, l9, hb10, e9⟩, q9, N10⟩
   ·refine zan (by rfl) ?_
    refine zax (some 7) _ (ints .i64 (List.replicate 16 0)) rfl rfl Tryz.zeroValue68 ?_
    obtain ⟨m1, hm1⟩ : ∃ wNew, wNew = World.alloc wl4.drew (.cells ((ints .i64 (List.replicate 16 0))).toArray 68) := ⟨_, rfl⟩
    rw [← hm1]
    have b1 : Ext wl4.drew m1 := by rw [hm1]; exact Ext.alloc _ _
    obtain ⟨g1, hg1⟩ : ∃ gNew, gNew = (wl4.drew).heap.size := ⟨_, rfl⟩
    rw [← hg1]
    have z1 : Blk m1 g1 (ints .i64 (List.replicate 16 0)) 68 := by rw [hm1, hg1]; exact Blk.made _ _ _
    have l1 : (wl4).heap.size ≤ g1 := by rw [hg1]; exact B0.size
    clear hm1 hg1
    have N1 : Ext wl4 m1 := B0.trans b1
    refine hK.out _ _ N1 (fun hHeld => ?_)
    clear hK K
    try simp only [Act.put, nrm]
    refine rdy 1 rfl fun K hK => ?_
    go_simp
    refine (rone_f 1 _ (by omega) (by omega)).mono ?_
    rintro e m2 ⟨v2, rfl, e2, b2⟩
    obtain ⟨z2, hz2, l2⟩ := e2.form
    subst hz2
    have z1 := z1.below b2
    have N2 : Ext wl4 m2 := N1.trans b2
    refine hK.out _ _ N2 (fun hHeld => ?_)
    clear hK K
    try simp only [Act.put, nrm]
    refine rdy 2 rfl fun K hK => ?_
    go_simp
    refine (rsub_f _ HeYq.out e2).mono ?_
    rintro e m3 ⟨v3, rfl, e3, b3⟩
    obtain ⟨z3, hz3, l3⟩ := e3.form
    subst hz3
    have z1 := z1.below b3
    have N3 : Ext wl4 m3 := N2.trans b3
    refine hK.out _ _ N3 (fun hHeld => ?_)
    clear hK K
    try simp only [Act.put, nrm]
    refine rdy 5 rfl fun K hK => ?_
    go_simp
    refine (zcn _ d_el.el HeYq.out).mono ?_
    rintro e m4 ⟨v4, rfl, e4, b4⟩
    obtain ⟨z4, hz4, l4⟩ := e4.form
    subst hz4
    have z1 := z1.below b4
    have N4 : Ext wl4 m4 := N3.trans b4
    refine hK.out _ _ N4 (fun hHeld => ?_)
    clear hK K
    try simp only [Act.put, nrm]
    refine rdy 6 rfl fun K hK => ?_
    go_simp
    refine (rone_f 1 _ (by omega) (by omega)).mono ?_
    rintro e m5 ⟨v5, rfl, e5, b5⟩
    obtain ⟨z5, hz5, l5⟩ := e5.form
    subst hz5
    have z1 := z1.below b5
    have N5 : Ext wl4 m5 := N4.trans b5
    refine hK.out _ _ N5 (fun hHeld => ?_)
    clear hK K
    try simp only [Act.put, nrm]
    refine rdy 7 rfl fun K hK => ?_
    go_simp
    refine (radd_f _ e4 e5).mono ?_
    rintro e m6 ⟨v6, rfl, e6, b6⟩
    obtain ⟨z6, hz6, l6⟩ := e6.form
    subst hz6
    have z1 := z1.below b6
    have N6 : Ext wl4 m6 := N5.trans b6
    refine hK.out _ _ N6 (fun hHeld => ?_)
    clear hK K
    try simp only [Act.put, nrm]
    refine rdy 8 rfl fun K hK => ?_
    go_simp
    refine (rinv_f _ e6).mono ?_
    rintro e m7 ⟨v7, rfl, e7, b7⟩
    obtain ⟨z7, hz7, l7⟩ := e7.form
    subst hz7
    have z1 := z1.below b7
    have N7 : Ext wl4 m7 := N6.trans b7
    refine hK.out _ _ N7 (fun hHeld => ?_)
    clear hK K
    try simp only [Act.put, nrm]
    refine rdy 9 rfl fun K hK => ?_
    go_simp
    refine (zcn _ e3 e7).mono ?_
    rintro e m8 ⟨v8, rfl, e8, b8⟩
    obtain ⟨z8, hz8, l8⟩ := e8.form
    subst hz8
    have z1 := z1.below b8
    have N8 : Ext wl4 m8 := N7.trans b8
    refine hK.out _ _ N8 (fun hHeld => ?_)
    clear hK K
    try simp only [Act.put, nrm]
    refine rdy 10 rfl fun K hK => ?_
    go_simp
    refine (rroot_f _ e8 (HGR.out.ext (HE.out.trans N8))).mono ?_
    rintro e m9 ⟨v9, f9, rfl, e9, q9, b9⟩
    obtain ⟨z9, hz9, l9⟩ := e9.form
    subst hz9
    have z1 := z1.below b9
    have N9 : Ext wl4 m9 := N8.trans b9
    refine hK.out _ _ N9 (fun hHeld => ?_)
    clear hK K
    try simp only [Act.put, nrm]
    refine tke 11 (.tuple #[.agg (ints .i64 z9).toArray, .bool (rtB ((y * y - fp 1) * fi (dF * (y * y) + fp 1)))]) rfl (zcb _ (.tuple #[.agg (ints .i64 z9).toArray, .bool (rtB ((y * y - fp 1) * fi (dF * (y * y) + fp 1)))]) (by rfl) rfl rfl) hHeld ?_
    simp only [Act.put, nrm]
    refine tke 12 (.agg (ints .i64 z9).toArray) rfl (zbl (.agg (ints .i64 z9).toArray) (by rfl) (fun w _ => by go_simp)) hHeld ?_
    simp only [Act.put, nrm]
    refine tke 13 (.bool (rtB ((y * y - fp 1) * fi (dF * (y * y) + fp 1)))) rfl (zbl (.bool (rtB ((y * y - fp 1) * fi (dF * (y * y) + fp 1)))) (by rfl) (fun w _ => by go_simp)) hHeld ?_
    simp only [Act.put, nrm]
    refine rdy 15 rfl fun K hK => ?_
    refine zan (by rfl) ?_
    refine zak _ _ _ rfl g1 (ints .i64 z9) rfl rfl _ _ z1 (by rw [zac, l9]; rfl) (zau l9) (zao _ _) ?_
    intro m10 hb10 hg10
    have N10 : Ext wl4 m10 := zad N9 hg10 l1
    refine hK.out _ _ N10 (fun hHeld => ?_)
    clear hK K
    try simp only [Act.put, nrm]
    refine rdy 16 rfl fun K hK => ?_
    go_simp
    refine hK.out _ _ N10 (fun hHeld => ?_)
    clear hK K
    try simp only [Act.put, nrm]
    refine dne ?_
    go_wp2_with fail
    go_meet
    exact ⟨_, f9, rfl, rfl, l1, ⟨z9, l9, hb10, e9⟩, q9, N10⟩
  case rest =>
   obtain ⟨TXv, f, rfl, rfl, hTg, hEl, hsq, hX⟩ := hcut
   have HTXv : Hid (TYq < TXv) := jh (Nat.lt_of_lt_of_le EYq.out.lt hTg)
   have EYv := jh (EYv.out.ext hX)
   have EYq := jh (EYq.out.ext hX)
   have HM := jh (zaa HM.out hX)
   have HR := jh (zaa HR.out hX)
   have HE := jh (HE.out.trans hX)
   have EXv := jh hEl
   have HO := jh (And.intro HO.out HTXv.out)
   clear hEl hX hTg
   generalize wc = wl5 at *
   rw [rad_eq] at hsq ⊢
   cases hrt : rtB (rad y) with
   | false =>
    have HNO := jh (may_no_root HNL.out (by rw [← HYE.out]; exact HPN.out) (fun x hx => by rw [← HYE.out, ← HYF.out] at hx; rw [rtB_true ⟨x, hx⟩] at hrt; cases hrt))
    go_wp2_with (refine zab rfl _ _ _ rfl (A + 1) (ints .i64 (List.replicate 64 0)) rfl rfl _ _ HR.out rfl HIZ.out (zao _ _) ?_; intro w9 hb9 hg9)
    refine bodyPost_ret (zar rfl _ (A + 1) _ _ _ rfl hb9 Tryz.underlying70 rfl HIZ.out) rfl ?_
    exact ⟨_, by rw [mayB_false HNO.out]; rfl, by rw [zac]; rfl, zao _ _, fun P hP => absurd ⟨P, hP⟩ HNO.out, zad HE.out hg9 (by have := HO.out; omega)⟩
   | true =>
    have HSQ := jh (hsq hrt)
    clear hsq hrt
    obtain ⟨zXv, lXv, bXv, eXv⟩ := EXv.out
    have HbXv := jh bXv
    have HeXv := jh eXv
    have HlXv := jh lXv
    have HiXv := jh (zau lXv)
    clear bXv eXv lXv
    go_wp2_with (refine zae rfl _ _ rfl TXv rfl _ _ _ _ HbXv.out Tryz.underlying68 HiXv.out ?_)
    refine (rout_f wl5 HeXv.out).mono ?_
    rintro e wl6 ⟨rfl, hb⟩
    have EYv := jh (EYv.out.ext hb)
    have EYq := jh (EYq.out.ext hb)
    have EXv := jh (EXv.out.ext hb)
    have HM := jh (zaa HM.out hb)
    have HR := jh (zaa HR.out hb)
    have HE := jh (HE.out.trans hb)
    clear hb
    have HZ := jh (Blk.made wl6 (ints .u8 (List.replicate 32 0)) 23)
    have HEA := jh (Ext.alloc wl6 (.cells (ints .u8 (List.replicate 32 0)).toArray 23))
    have HL : Hid (((nbF f).map bval).length = (ints .u8 (List.replicate 32 0)).length) := jh (by rw [List.length_map, zag, zac]; rfl)
    go_upto_region 11 with (refine zab rfl _ _ _ rfl wl6.heap.size ((nbF f).map bval) rfl rfl _ _ HZ.out HL.out (zaf (zag _)) (zaj _) ?_; intro wl7 hb2 hg2)
    have HX := jh (zad HEA.out hg2 (Nat.le_refl _))
    obtain ⟨Wn, hT⟩ : ∃ T, T = wl6.heap.size := ⟨_, rfl⟩
    have HTW : Hid (TXv < Wn) := jh (by rw [hT]; exact EXv.out.lt)
    rw [← hT] at hb2 ⊢
    have EYv := jh (EYv.out.ext HX.out)
    have EYq := jh (EYq.out.ext HX.out)
    have EXv := jh (EXv.out.ext HX.out)
    have HM := jh (zaa HM.out HX.out)
    have HR := jh (zaa HR.out HX.out)
    have HE := jh (HE.out.trans HX.out)
    have HWn := jh hb2
    have HO := jh (And.intro HO.out HTW.out)
    clear hb2 hg2 HZ HEA HX hT HL
    have HFL := jh (zag f)
    have hodd := nbF_odd f
    by_cases f0 : f = 0
    ·have HQ : Hid (decide (nbF f = zer) = true) := jh (decide_eq_true (by rw [f0]; exact nbF_nought))
     by_cases b1 : b = 1
     ·have hb1 : (b : Int) = 1 := by omega
      have HNF := jh (may_no_f HNL.out (by rw [← HYE.out]; exact HPN.out) (f := f) (by rw [← HYE.out, ← HYF.out]; exact HSQ.out) f0 (by rw [← HBE.out]; exact b1))
      clear b1 f0
      go_upto_region 12 with (first | (refine wpList_eql (by rfl) _ _ _ _ _ _ 32 _ (nbF f) zer true rfl (Or.inl ⟨rfl, HQ.out⟩) Tryz.underlying23 Tryz.underlying5 zcv zck zco rfl rfl HFL.out zej ?_) | (refine zcf (by rfl) _ _ rfl Wn rfl _ _ _ _ HWn.out Tryz.underlying23 (zaf HFL.out) ?_))
      have HNO := jh (HNF.out)
      go_wp2_with (refine zab rfl _ _ _ rfl (A + 1) (ints .i64 (List.replicate 64 0)) rfl rfl _ _ HR.out rfl HIZ.out (zao _ _) ?_; intro w9 hb9 hg9)
      refine bodyPost_ret (zar rfl _ (A + 1) _ _ _ rfl hb9 Tryz.underlying70 rfl HIZ.out) rfl ?_
      exact ⟨_, by rw [mayB_false HNO.out]; rfl, by rw [zac]; rfl, zao _ _, fun P hP => absurd ⟨P, hP⟩ HNO.out, zad HE.out hg9 (by have := HO.out; omega)⟩
     ·have hb1 : decide ((b : Int) = 1) = false := decide_eq_false (by omega)
      have HB1 := jh b1
      have hb1n : ¬ (b : Int) = 1 := by omega
      have hb1m : decide (b = 1) = false := decide_eq_false b1
      clear f0
      go_upto_region 13 with (first | (refine wpList_eql (by rfl) _ _ _ _ _ _ 32 _ (nbF f) zer true rfl (Or.inl ⟨rfl, HQ.out⟩) Tryz.underlying23 Tryz.underlying5 zcv zck zco rfl rfl HFL.out zej ?_) | (refine zcf (by rfl) _ _ rfl Wn rfl _ _ _ _ HWn.out Tryz.underlying23 (zaf HFL.out) ?_))
      clear hb1 hb1n hb1m b1
      have HH0 : Hid (¬ (f = 0 ∧ bitN n = 1)) := jh (fun h => HB1.out (by rw [HBE.out]; exact h.2))
      have c0 := HWn.out.cell 0
      rw [zbu (by rw [HFL.out]; omega)] at c0
      have hq1 := andU1 ((nbF f).getD 0 0).toNat
      rw [hodd] at hq1
      generalize (((nbF f).getD 0 0).toNat : Int) = q0 at *
      clear hodd
      by_cases hpar : f.val % 2 = b
      ·have hq : bits .and .u8 q0 1 = (b : Int) := by rw [hq1, hpar]
       have HXX : Hid (f = pickX f (bitN n)) := jh (by unfold pickX; rw [← HBE.out, if_pos hpar])
       clear hq1 hpar
       go_upto_region 15 with (fail)
       clear hq c0
       obtain ⟨zXv, lXv, bXv, eXv⟩ := EXv.out
       have HbXv := jh bXv
       have HeXv := jh eXv
       have HlXv := jh lXv
       have HiXv := jh (zau lXv)
       clear bXv eXv lXv
       obtain ⟨zYv, lYv, bYv, eYv⟩ := EYv.out
       have HbYv := jh bYv
       have HeYv := jh eYv
       have HlYv := jh lYv
       have HiYv := jh (zau lYv)
       clear bYv eYv lYv
       have B0 : Ext wl7 wl7.drew := Ext.drew _
       refine wp_region_held_drew (S := fun w' => Far (A + 1) wl7 w') (by kernel_rfl) (zbx B0) (fun hHeld => ?_)
       refine tke 0 (.agg (ints .i64 zXv).toArray) rfl (yieldsIf_load_mid (by rfl) _ _ rfl TXv 0 rfl _ _ (fun w h => zbr HbXv.out (by have := HO.out; omega) h) Tryz.underlying68 rfl HiXv.out) hHeld ?_
       simp only [Act.put, nrm]
       refine tke 1 (.agg (ints .i64 zYv).toArray) rfl (yieldsIf_load_mid (by rfl) _ _ rfl TYv 0 rfl _ _ (fun w h => zbr HbYv.out (by have := HO.out; omega) h) Tryz.underlying68 rfl HiYv.out) hHeld ?_
       simp only [Act.put, nrm]
       refine tke 3 (.agg (ints .i64 zXv).toArray) rfl (yieldsIf_load_mid (by rfl) _ _ rfl TXv 0 rfl _ _ (fun w h => zbr HbXv.out (by have := HO.out; omega) h) Tryz.underlying68 rfl HiXv.out) hHeld ?_
       simp only [Act.put, nrm]
       refine tke 4 (.agg (ints .i64 zYv).toArray) rfl (yieldsIf_load_mid (by rfl) _ _ rfl TYv 0 rfl _ _ (fun w h => zbr HbYv.out (by have := HO.out; omega) h) Tryz.underlying68 rfl HiYv.out) hHeld ?_
       simp only [Act.put, nrm]
       refine rdy 2 rfl fun K hK => ?_
       go_simp
       refine (rone_f 1 _ (by omega) (by omega)).mono ?_
       rintro e m1 ⟨v1, rfl, e1, b1⟩
       obtain ⟨z1, hz1, l1⟩ := e1.form
       subst hz1
       have N1 : Ext wl7 m1 := B0.trans b1
       refine hK.out _ _ (zbx N1) (fun hHeld => ?_)
       clear hK K
       try simp only [Act.put, nrm]
       refine rdy 5 rfl fun K hK => ?_
       go_simp
       refine (zcn _ HeXv.out HeYv.out).mono ?_
       rintro e m2 ⟨v2, rfl, e2, b2⟩
       obtain ⟨z2, hz2, l2⟩ := e2.form
       subst hz2
       have N2 : Ext wl7 m2 := N1.trans b2
       refine hK.out _ _ (zbx N2) (fun hHeld => ?_)
       clear hK K
       try simp only [Act.put, nrm]
       refine tke 6 (.agg (ptC zXv zYv z1 z2).toArray) rfl (yi_build _ _ _ _ (build_pt (⟨⟨HlXv.out, HeXv.out⟩, ⟨HlYv.out, HeYv.out⟩, ⟨l1, e1⟩, ⟨l2, e2⟩⟩ : PtZ zXv zYv z1 z2 (⟨f, y, fp 1, f * y⟩ : ES))) (by rfl) rfl (by simp [Act.eval])) hHeld ?_
       simp only [Act.put, nrm]
       refine rdy 7 rfl fun K hK => ?_
       refine zan (by rfl) ?_
       refine zak _ _ _ rfl (A + 1) (ptC zXv zYv z1 z2) rfl rfl _ _ (zaa HR.out N2) (by rw [zci ((⟨⟨HlXv.out, HeXv.out⟩, ⟨HlYv.out, HeYv.out⟩, ⟨l1, e1⟩, ⟨l2, e2⟩⟩ : PtZ zXv zYv z1 z2 (⟨f, y, fp 1, f * y⟩ : ES))), zac]; rfl) (zcw ((⟨⟨HlXv.out, HeXv.out⟩, ⟨HlYv.out, HeYv.out⟩, ⟨l1, e1⟩, ⟨l2, e2⟩⟩ : PtZ zXv zYv z1 z2 (⟨f, y, fp 1, f * y⟩ : ES)))) (zfa _ _ _ _) ?_
       intro m3 hb3 hg3
       refine hK.out _ _ (zdk N2 hg3) (fun hHeld => ?_)
       clear hK K
       try simp only [Act.put, nrm]
       refine rdy 8 rfl fun K hK => ?_
       go_simp
       refine hK.out _ _ (zdk N2 hg3) (fun hHeld => ?_)
       clear hK K
       try simp only [Act.put, nrm]
       refine dne ?_
       go_wp2_with fail
       refine bodyPost_ret (zar rfl _ (A + 1) _ _ _ rfl hb3 Tryz.underlying70 rfl (zcw (⟨⟨HlXv.out, HeXv.out⟩, ⟨HlYv.out, HeYv.out⟩, ⟨l1, e1⟩, ⟨l2, e2⟩⟩ : PtZ zXv zYv z1 z2 (⟨f, y, fp 1, f * y⟩ : ES)))) rfl ?_
       have hri := read_is HNL.out (by rw [← HYE.out]; exact HPN.out) (f := f) (by rw [← HYE.out, ← HYF.out]; exact HSQ.out) HH0.out HXX.out
       rw [← HYE.out, ← HYF.out] at hri
       exact ⟨_, by rw [mayB_true hri.1]; rfl, zci (⟨⟨HlXv.out, HeXv.out⟩, ⟨HlYv.out, HeYv.out⟩, ⟨l1, e1⟩, ⟨l2, e2⟩⟩ : PtZ zXv zYv z1 z2 (⟨f, y, fp 1, f * y⟩ : ES)), zfa _ _ _ _, fun P hP => ⟨(⟨f, y, fp 1, f * y⟩ : ES), ⟨_, _, _, _, rfl, (⟨⟨HlXv.out, HeXv.out⟩, ⟨HlYv.out, HeYv.out⟩, ⟨l1, e1⟩, ⟨l2, e2⟩⟩ : PtZ zXv zYv z1 z2 (⟨f, y, fp 1, f * y⟩ : ES))⟩, hri.2 P hP⟩, zad (HE.out.trans N2) hg3 (by have := HO.out; omega)⟩
      ·obtain ⟨c, hc⟩ : ∃ c, c = f.val % 2 := ⟨_, rfl⟩
       have hq : bits .and .u8 q0 1 = (c : Int) := by rw [hq1, hc]
       have hcb : ¬ (c : Int) = (b : Int) := by rw [hc]; omega
       have hcd : decide ((c : Int) = (b : Int)) = false := decide_eq_false hcb
       have HXX : Hid (0 - f = pickX f (bitN n)) := jh (by unfold pickX; rw [← HBE.out, if_neg hpar, f_neg])
       clear hq1 hpar hc
       go_upto_region 14 with (fail)
       clear hq c0 hcb hcd
       obtain ⟨zXv, lXv, bXv, eXv⟩ := EXv.out
       have HbXv := jh bXv
       have HeXv := jh eXv
       have HlXv := jh lXv
       have HiXv := jh (zau lXv)
       clear bXv eXv lXv
       go_wp2_with (refine zae rfl _ _ rfl TXv rfl _ _ _ _ HbXv.out Tryz.underlying68 HiXv.out ?_)
       refine (rsub_f wl7 el_zero HeXv.out).mono ?_
       rintro e wl8 ⟨r, rfl, hr, hb⟩
       obtain ⟨z, hz, lz⟩ := hr.form
       subst hz
       have EYv := jh (EYv.out.ext hb)
       have EYq := jh (EYq.out.ext hb)
       have EXv := jh (EXv.out.ext hb)
       have HM := jh (zaa HM.out hb)
       have HR := jh (zaa HR.out hb)
       have HWn := jh (zaa HWn.out hb)
       have HE := jh (HE.out.trans hb)
       clear hb
       obtain ⟨zXv, lXv, bXv, eXv⟩ := EXv.out
       have HbXv := jh bXv
       have HeXv := jh eXv
       have HlXv := jh lXv
       have HiXv := jh (zau lXv)
       clear bXv eXv lXv
       have HI := jh (zau lz)
       have HL : Hid ((ints .i64 z).length = (ints .i64 zXv).length) := jh (by rw [zac, zac, lz, HlXv.out])
       go_upto_region 15 with (refine zab rfl _ _ _ rfl TXv (ints .i64 z) rfl rfl _ _ HbXv.out HL.out HI.out (zao _ _) ?_; intro wl9 hbm hgm)
       have EYv := jh (EYv.out.grown hgm (by have := HO.out; simp; omega))
       have EYq := jh (EYq.out.grown hgm (by have := HO.out; simp; omega))
       have HM := jh (HM.out.grown hgm (by have := HO.out; simp; omega))
       have HR := jh (HR.out.grown hgm (by have := HO.out; simp; omega))
       have HWn := jh (HWn.out.grown hgm (by have := HO.out; simp; omega))
       have HE := jh (zad HE.out hgm (by have := HO.out; omega))
       have EXv : Hid (ElB wl9 TXv (0 - f)) := jh ⟨z, lz, hbm, hr⟩
       clear hbm hgm hr HI HL lz
       obtain ⟨zXv, lXv, bXv, eXv⟩ := EXv.out
       have HbXv := jh bXv
       have HeXv := jh eXv
       have HlXv := jh lXv
       have HiXv := jh (zau lXv)
       clear bXv eXv lXv
       obtain ⟨zYv, lYv, bYv, eYv⟩ := EYv.out
       have HbYv := jh bYv
       have HeYv := jh eYv
       have HlYv := jh lYv
       have HiYv := jh (zau lYv)
       clear bYv eYv lYv
       have B0 : Ext wl9 wl9.drew := Ext.drew _
       refine wp_region_held_drew (S := fun w' => Far (A + 1) wl9 w') (by kernel_rfl) (zbx B0) (fun hHeld => ?_)
       refine tke 0 (.agg (ints .i64 zXv).toArray) rfl (yieldsIf_load_mid (by rfl) _ _ rfl TXv 0 rfl _ _ (fun w h => zbr HbXv.out (by have := HO.out; omega) h) Tryz.underlying68 rfl HiXv.out) hHeld ?_
       simp only [Act.put, nrm]
       refine tke 1 (.agg (ints .i64 zYv).toArray) rfl (yieldsIf_load_mid (by rfl) _ _ rfl TYv 0 rfl _ _ (fun w h => zbr HbYv.out (by have := HO.out; omega) h) Tryz.underlying68 rfl HiYv.out) hHeld ?_
       simp only [Act.put, nrm]
       refine tke 3 (.agg (ints .i64 zXv).toArray) rfl (yieldsIf_load_mid (by rfl) _ _ rfl TXv 0 rfl _ _ (fun w h => zbr HbXv.out (by have := HO.out; omega) h) Tryz.underlying68 rfl HiXv.out) hHeld ?_
       simp only [Act.put, nrm]
       refine tke 4 (.agg (ints .i64 zYv).toArray) rfl (yieldsIf_load_mid (by rfl) _ _ rfl TYv 0 rfl _ _ (fun w h => zbr HbYv.out (by have := HO.out; omega) h) Tryz.underlying68 rfl HiYv.out) hHeld ?_
       simp only [Act.put, nrm]
       refine rdy 2 rfl fun K hK => ?_
       go_simp
       refine (rone_f 1 _ (by omega) (by omega)).mono ?_
       rintro e m1 ⟨v1, rfl, e1, b1⟩
       obtain ⟨z1, hz1, l1⟩ := e1.form
       subst hz1
       have N1 : Ext wl9 m1 := B0.trans b1
       refine hK.out _ _ (zbx N1) (fun hHeld => ?_)
       clear hK K
       try simp only [Act.put, nrm]
       refine rdy 5 rfl fun K hK => ?_
       go_simp
       refine (zcn _ HeXv.out HeYv.out).mono ?_
       rintro e m2 ⟨v2, rfl, e2, b2⟩
       obtain ⟨z2, hz2, l2⟩ := e2.form
       subst hz2
       have N2 : Ext wl9 m2 := N1.trans b2
       refine hK.out _ _ (zbx N2) (fun hHeld => ?_)
       clear hK K
       try simp only [Act.put, nrm]
       refine tke 6 (.agg (ptC zXv zYv z1 z2).toArray) rfl (yi_build _ _ _ _ (build_pt (⟨⟨HlXv.out, HeXv.out⟩, ⟨HlYv.out, HeYv.out⟩, ⟨l1, e1⟩, ⟨l2, e2⟩⟩ : PtZ zXv zYv z1 z2 (⟨(0 - f), y, fp 1, (0 - f) * y⟩ : ES))) (by rfl) rfl (by simp [Act.eval])) hHeld ?_
       simp only [Act.put, nrm]
       refine rdy 7 rfl fun K hK => ?_
       refine zan (by rfl) ?_
       refine zak _ _ _ rfl (A + 1) (ptC zXv zYv z1 z2) rfl rfl _ _ (zaa HR.out N2) (by rw [zci ((⟨⟨HlXv.out, HeXv.out⟩, ⟨HlYv.out, HeYv.out⟩, ⟨l1, e1⟩, ⟨l2, e2⟩⟩ : PtZ zXv zYv z1 z2 (⟨(0 - f), y, fp 1, (0 - f) * y⟩ : ES))), zac]; rfl) (zcw ((⟨⟨HlXv.out, HeXv.out⟩, ⟨HlYv.out, HeYv.out⟩, ⟨l1, e1⟩, ⟨l2, e2⟩⟩ : PtZ zXv zYv z1 z2 (⟨(0 - f), y, fp 1, (0 - f) * y⟩ : ES)))) (zfa _ _ _ _) ?_
       intro m3 hb3 hg3
       refine hK.out _ _ (zdk N2 hg3) (fun hHeld => ?_)
       clear hK K
       try simp only [Act.put, nrm]
       refine rdy 8 rfl fun K hK => ?_
       go_simp
       refine hK.out _ _ (zdk N2 hg3) (fun hHeld => ?_)
       clear hK K
       try simp only [Act.put, nrm]
       refine dne ?_
       go_wp2_with fail
       refine bodyPost_ret (zar rfl _ (A + 1) _ _ _ rfl hb3 Tryz.underlying70 rfl (zcw (⟨⟨HlXv.out, HeXv.out⟩, ⟨HlYv.out, HeYv.out⟩, ⟨l1, e1⟩, ⟨l2, e2⟩⟩ : PtZ zXv zYv z1 z2 (⟨(0 - f), y, fp 1, (0 - f) * y⟩ : ES)))) rfl ?_
       have hri := read_is HNL.out (by rw [← HYE.out]; exact HPN.out) (f := f) (by rw [← HYE.out, ← HYF.out]; exact HSQ.out) HH0.out HXX.out
       rw [← HYE.out, ← HYF.out] at hri
       exact ⟨_, by rw [mayB_true hri.1]; rfl, zci (⟨⟨HlXv.out, HeXv.out⟩, ⟨HlYv.out, HeYv.out⟩, ⟨l1, e1⟩, ⟨l2, e2⟩⟩ : PtZ zXv zYv z1 z2 (⟨(0 - f), y, fp 1, (0 - f) * y⟩ : ES)), zfa _ _ _ _, fun P hP => ⟨(⟨(0 - f), y, fp 1, (0 - f) * y⟩ : ES), ⟨_, _, _, _, rfl, (⟨⟨HlXv.out, HeXv.out⟩, ⟨HlYv.out, HeYv.out⟩, ⟨l1, e1⟩, ⟨l2, e2⟩⟩ : PtZ zXv zYv z1 z2 (⟨(0 - f), y, fp 1, (0 - f) * y⟩ : ES))⟩, hri.2 P hP⟩, zad (HE.out.trans N2) hg3 (by have := HO.out; omega)⟩
    ·have HQ : Hid (decide (nbF f = zer) = false) := jh (decide_eq_false (fun h => f0 (nbF_zer h)))
     have HF0 := jh f0
     clear f0
     go_upto_region 13 with (first | (refine wpList_eql (by rfl) _ _ _ _ _ _ 32 _ (nbF f) zer false rfl (Or.inl ⟨rfl, HQ.out⟩) Tryz.underlying23 Tryz.underlying5 zcv zck zco rfl rfl HFL.out zej ?_) | (refine zcf (by rfl) _ _ rfl Wn rfl _ _ _ _ HWn.out Tryz.underlying23 (zaf HFL.out) ?_))
     have HH0 : Hid (¬ (f = 0 ∧ bitN n = 1)) := jh (fun h => HF0.out h.1)
     have c0 := HWn.out.cell 0
     rw [zbu (by rw [HFL.out]; omega)] at c0
     have hq1 := andU1 ((nbF f).getD 0 0).toNat
     rw [hodd] at hq1
     generalize (((nbF f).getD 0 0).toNat : Int) = q0 at *
     clear hodd
     by_cases hpar : f.val % 2 = b
     ·have hq : bits .and .u8 q0 1 = (b : Int) := by rw [hq1, hpar]
      have HXX : Hid (f = pickX f (bitN n)) := jh (by unfold pickX; rw [← HBE.out, if_pos hpar])
      clear hq1 hpar
      go_upto_region 15 with (fail)
      clear hq c0
      obtain ⟨zXv, lXv, bXv, eXv⟩ := EXv.out
      have HbXv := jh bXv
      have HeXv := jh eXv
      have HlXv := jh lXv
      have HiXv := jh (zau lXv)
      clear bXv eXv lXv
      obtain ⟨zYv, lYv, bYv, eYv⟩ := EYv.out
      have HbYv := jh bYv
      have HeYv := jh eYv
      have HlYv := jh lYv
      have HiYv := jh (zau lYv)
      clear bYv eYv lYv
      have B0 : Ext wl7 wl7.drew := Ext.drew _
      refine wp_region_held_drew (S := fun w' => Far (A + 1) wl7 w') (by kernel_rfl) (zbx B0) (fun hHeld => ?_)
      refine tke 0 (.agg (ints .i64 zXv).toArray) rfl (yieldsIf_load_mid (by rfl) _ _ rfl TXv 0 rfl _ _ (fun w h => zbr HbXv.out (by have := HO.out; omega) h) Tryz.underlying68 rfl HiXv.out) hHeld ?_
      simp only [Act.put, nrm]
      refine tke 1 (.agg (ints .i64 zYv).toArray) rfl (yieldsIf_load_mid (by rfl) _ _ rfl TYv 0 rfl _ _ (fun w h => zbr HbYv.out (by have := HO.out; omega) h) Tryz.underlying68 rfl HiYv.out) hHeld ?_
      simp only [Act.put, nrm]
      refine tke 3 (.agg (ints .i64 zXv).toArray) rfl (yieldsIf_load_mid (by rfl) _ _ rfl TXv 0 rfl _ _ (fun w h => zbr HbXv.out (by have := HO.out; omega) h) Tryz.underlying68 rfl HiXv.out) hHeld ?_
      simp only [Act.put, nrm]
      refine tke 4 (.agg (ints .i64 zYv).toArray) rfl (yieldsIf_load_mid (by rfl) _ _ rfl TYv 0 rfl _ _ (fun w h => zbr HbYv.out (by have := HO.out; omega) h) Tryz.underlying68 rfl HiYv.out) hHeld ?_
      simp only [Act.put, nrm]
      refine rdy 2 rfl fun K hK => ?_
      go_simp
      refine (rone_f 1 _ (by omega) (by omega)).mono ?_
      rintro e m1 ⟨v1, rfl, e1, b1⟩
      obtain ⟨z1, hz1, l1⟩ := e1.form
      subst hz1
      have N1 : Ext wl7 m1 := B0.trans b1
      refine hK.out _ _ (zbx N1) (fun hHeld => ?_)
      clear hK K
      try simp only [Act.put, nrm]
      refine rdy 5 rfl fun K hK => ?_
      go_simp
      refine (zcn _ HeXv.out HeYv.out).mono ?_
      rintro e m2 ⟨v2, rfl, e2, b2⟩
      obtain ⟨z2, hz2, l2⟩ := e2.form
      subst hz2
      have N2 : Ext wl7 m2 := N1.trans b2
      refine hK.out _ _ (zbx N2) (fun hHeld => ?_)
      clear hK K
      try simp only [Act.put, nrm]
      refine tke 6 (.agg (ptC zXv zYv z1 z2).toArray) rfl (yi_build _ _ _ _ (build_pt (⟨⟨HlXv.out, HeXv.out⟩, ⟨HlYv.out, HeYv.out⟩, ⟨l1, e1⟩, ⟨l2, e2⟩⟩ : PtZ zXv zYv z1 z2 (⟨f, y, fp 1, f * y⟩ : ES))) (by rfl) rfl (by simp [Act.eval])) hHeld ?_
      simp only [Act.put, nrm]
      refine rdy 7 rfl fun K hK => ?_
      refine zan (by rfl) ?_
      refine zak _ _ _ rfl (A + 1) (ptC zXv zYv z1 z2) rfl rfl _ _ (zaa HR.out N2) (by rw [zci ((⟨⟨HlXv.out, HeXv.out⟩, ⟨HlYv.out, HeYv.out⟩, ⟨l1, e1⟩, ⟨l2, e2⟩⟩ : PtZ zXv zYv z1 z2 (⟨f, y, fp 1, f * y⟩ : ES))), zac]; rfl) (zcw ((⟨⟨HlXv.out, HeXv.out⟩, ⟨HlYv.out, HeYv.out⟩, ⟨l1, e1⟩, ⟨l2, e2⟩⟩ : PtZ zXv zYv z1 z2 (⟨f, y, fp 1, f * y⟩ : ES)))) (zfa _ _ _ _) ?_
      intro m3 hb3 hg3
      refine hK.out _ _ (zdk N2 hg3) (fun hHeld => ?_)
      clear hK K
      try simp only [Act.put, nrm]
      refine rdy 8 rfl fun K hK => ?_
      go_simp
      refine hK.out _ _ (zdk N2 hg3) (fun hHeld => ?_)
      clear hK K
      try simp only [Act.put, nrm]
      refine dne ?_
      go_wp2_with fail
      refine bodyPost_ret (zar rfl _ (A + 1) _ _ _ rfl hb3 Tryz.underlying70 rfl (zcw (⟨⟨HlXv.out, HeXv.out⟩, ⟨HlYv.out, HeYv.out⟩, ⟨l1, e1⟩, ⟨l2, e2⟩⟩ : PtZ zXv zYv z1 z2 (⟨f, y, fp 1, f * y⟩ : ES)))) rfl ?_
      have hri := read_is HNL.out (by rw [← HYE.out]; exact HPN.out) (f := f) (by rw [← HYE.out, ← HYF.out]; exact HSQ.out) HH0.out HXX.out
      rw [← HYE.out, ← HYF.out] at hri
      exact ⟨_, by rw [mayB_true hri.1]; rfl, zci (⟨⟨HlXv.out, HeXv.out⟩, ⟨HlYv.out, HeYv.out⟩, ⟨l1, e1⟩, ⟨l2, e2⟩⟩ : PtZ zXv zYv z1 z2 (⟨f, y, fp 1, f * y⟩ : ES)), zfa _ _ _ _, fun P hP => ⟨(⟨f, y, fp 1, f * y⟩ : ES), ⟨_, _, _, _, rfl, (⟨⟨HlXv.out, HeXv.out⟩, ⟨HlYv.out, HeYv.out⟩, ⟨l1, e1⟩, ⟨l2, e2⟩⟩ : PtZ zXv zYv z1 z2 (⟨f, y, fp 1, f * y⟩ : ES))⟩, hri.2 P hP⟩, zad (HE.out.trans N2) hg3 (by have := HO.out; omega)⟩
     ·obtain ⟨c, hc⟩ : ∃ c, c = f.val % 2 := ⟨_, rfl⟩
      have hq : bits .and .u8 q0 1 = (c : Int) := by rw [hq1, hc]
      have hcb : ¬ (c : Int) = (b : Int) := by rw [hc]; omega
      have hcd : decide ((c : Int) = (b : Int)) = false := decide_eq_false hcb
      have HXX : Hid (0 - f = pickX f (bitN n)) := jh (by unfold pickX; rw [← HBE.out, if_neg hpar, f_neg])
      clear hq1 hpar hc
      go_upto_region 14 with (fail)
      clear hq c0 hcb hcd
      obtain ⟨zXv, lXv, bXv, eXv⟩ := EXv.out
      have HbXv := jh bXv
      have HeXv := jh eXv
      have HlXv := jh lXv
      have HiXv := jh (zau lXv)
      clear bXv eXv lXv
      go_wp2_with (refine zae rfl _ _ rfl TXv rfl _ _ _ _ HbXv.out Tryz.underlying68 HiXv.out ?_)
      refine (rsub_f wl7 el_zero HeXv.out).mono ?_
      rintro e wl8 ⟨r, rfl, hr, hb⟩
      obtain ⟨z, hz, lz⟩ := hr.form
      subst hz
      have EYv := jh (EYv.out.ext hb)
      have EYq := jh (EYq.out.ext hb)
      have EXv := jh (EXv.out.ext hb)
      have HM := jh (zaa HM.out hb)
      have HR := jh (zaa HR.out hb)
      have HWn := jh (zaa HWn.out hb)
      have HE := jh (HE.out.trans hb)
      clear hb
      obtain ⟨zXv, lXv, bXv, eXv⟩ := EXv.out
      have HbXv := jh bXv
      have HeXv := jh eXv
      have HlXv := jh lXv
      have HiXv := jh (zau lXv)
      clear bXv eXv lXv
      have HI := jh (zau lz)
      have HL : Hid ((ints .i64 z).length = (ints .i64 zXv).length) := jh (by rw [zac, zac, lz, HlXv.out])
      go_upto_region 15 with (refine zab rfl _ _ _ rfl TXv (ints .i64 z) rfl rfl _ _ HbXv.out HL.out HI.out (zao _ _) ?_; intro wl9 hbm hgm)
      have EYv := jh (EYv.out.grown hgm (by have := HO.out; simp; omega))
      have EYq := jh (EYq.out.grown hgm (by have := HO.out; simp; omega))
      have HM := jh (HM.out.grown hgm (by have := HO.out; simp; omega))
      have HR := jh (HR.out.grown hgm (by have := HO.out; simp; omega))
      have HWn := jh (HWn.out.grown hgm (by have := HO.out; simp; omega))
      have HE := jh (zad HE.out hgm (by have := HO.out; omega))
      have EXv : Hid (ElB wl9 TXv (0 - f)) := jh ⟨z, lz, hbm, hr⟩
      clear hbm hgm hr HI HL lz
      obtain ⟨zXv, lXv, bXv, eXv⟩ := EXv.out
      have HbXv := jh bXv
      have HeXv := jh eXv
      have HlXv := jh lXv
      have HiXv := jh (zau lXv)
      clear bXv eXv lXv
      obtain ⟨zYv, lYv, bYv, eYv⟩ := EYv.out
      have HbYv := jh bYv
      have HeYv := jh eYv
      have HlYv := jh lYv
      have HiYv := jh (zau lYv)
      clear bYv eYv lYv
      have B0 : Ext wl9 wl9.drew := Ext.drew _
      refine wp_region_held_drew (S := fun w' => Far (A + 1) wl9 w') (by kernel_rfl) (zbx B0) (fun hHeld => ?_)
      refine tke 0 (.agg (ints .i64 zXv).toArray) rfl (yieldsIf_load_mid (by rfl) _ _ rfl TXv 0 rfl _ _ (fun w h => zbr HbXv.out (by have := HO.out; omega) h) Tryz.underlying68 rfl HiXv.out) hHeld ?_
      simp only [Act.put, nrm]
      refine tke 1 (.agg (ints .i64 zYv).toArray) rfl (yieldsIf_load_mid (by rfl) _ _ rfl TYv 0 rfl _ _ (fun w h => zbr HbYv.out (by have := HO.out; omega) h) Tryz.underlying68 rfl HiYv.out) hHeld ?_
      simp only [Act.put, nrm]
      refine tke 3 (.agg (ints .i64 zXv).toArray) rfl (yieldsIf_load_mid (by rfl) _ _ rfl TXv 0 rfl _ _ (fun w h => zbr HbXv.out (by have := HO.out; omega) h) Tryz.underlying68 rfl HiXv.out) hHeld ?_
      simp only [Act.put, nrm]
      refine tke 4 (.agg (ints .i64 zYv).toArray) rfl (yieldsIf_load_mid (by rfl) _ _ rfl TYv 0 rfl _ _ (fun w h => zbr HbYv.out (by have := HO.out; omega) h) Tryz.underlying68 rfl HiYv.out) hHeld ?_
      simp only [Act.put, nrm]
      refine rdy 2 rfl fun K hK => ?_
      go_simp
      refine (rone_f 1 _ (by omega) (by omega)).mono ?_
      rintro e m1 ⟨v1, rfl, e1, b1⟩
      obtain ⟨z1, hz1, l1⟩ := e1.form
      subst hz1
      have N1 : Ext wl9 m1 := B0.trans b1
      refine hK.out _ _ (zbx N1) (fun hHeld => ?_)
      clear hK K
      try simp only [Act.put, nrm]
      refine rdy 5 rfl fun K hK => ?_
      go_simp
      refine (zcn _ HeXv.out HeYv.out).mono ?_
      rintro e m2 ⟨v2, rfl, e2, b2⟩
      obtain ⟨z2, hz2, l2⟩ := e2.form
      subst hz2
      have N2 : Ext wl9 m2 := N1.trans b2
      refine hK.out _ _ (zbx N2) (fun hHeld => ?_)
      clear hK K
      try simp only [Act.put, nrm]
      refine tke 6 (.agg (ptC zXv zYv z1 z2).toArray) rfl (yi_build _ _ _ _ (build_pt (⟨⟨HlXv.out, HeXv.out⟩, ⟨HlYv.out, HeYv.out⟩, ⟨l1, e1⟩, ⟨l2, e2⟩⟩ : PtZ zXv zYv z1 z2 (⟨(0 - f), y, fp 1, (0 - f) * y⟩ : ES))) (by rfl) rfl (by simp [Act.eval])) hHeld ?_
      simp only [Act.put, nrm]
      refine rdy 7 rfl fun K hK => ?_
      refine zan (by rfl) ?_
      refine zak _ _ _ rfl (A + 1) (ptC zXv zYv z1 z2) rfl rfl _ _ (zaa HR.out N2) (by rw [zci ((⟨⟨HlXv.out, HeXv.out⟩, ⟨HlYv.out, HeYv.out⟩, ⟨l1, e1⟩, ⟨l2, e2⟩⟩ : PtZ zXv zYv z1 z2 (⟨(0 - f), y, fp 1, (0 - f) * y⟩ : ES))), zac]; rfl) (zcw ((⟨⟨HlXv.out, HeXv.out⟩, ⟨HlYv.out, HeYv.out⟩, ⟨l1, e1⟩, ⟨l2, e2⟩⟩ : PtZ zXv zYv z1 z2 (⟨(0 - f), y, fp 1, (0 - f) * y⟩ : ES)))) (zfa _ _ _ _) ?_
      intro m3 hb3 hg3
      refine hK.out _ _ (zdk N2 hg3) (fun hHeld => ?_)
      clear hK K
      try simp only [Act.put, nrm]
      refine rdy 8 rfl fun K hK => ?_
      go_simp
      refine hK.out _ _ (zdk N2 hg3) (fun hHeld => ?_)
      clear hK K
      try simp only [Act.put, nrm]
      refine dne ?_
      go_wp2_with fail
      refine bodyPost_ret (zar rfl _ (A + 1) _ _ _ rfl hb3 Tryz.underlying70 rfl (zcw (⟨⟨HlXv.out, HeXv.out⟩, ⟨HlYv.out, HeYv.out⟩, ⟨l1, e1⟩, ⟨l2, e2⟩⟩ : PtZ zXv zYv z1 z2 (⟨(0 - f), y, fp 1, (0 - f) * y⟩ : ES)))) rfl ?_
      have hri := read_is HNL.out (by rw [← HYE.out]; exact HPN.out) (f := f) (by rw [← HYE.out, ← HYF.out]; exact HSQ.out) HH0.out HXX.out
      rw [← HYE.out, ← HYF.out] at hri
      exact ⟨_, by rw [mayB_true hri.1]; rfl, zci (⟨⟨HlXv.out, HeXv.out⟩, ⟨HlYv.out, HeYv.out⟩, ⟨l1, e1⟩, ⟨l2, e2⟩⟩ : PtZ zXv zYv z1 z2 (⟨(0 - f), y, fp 1, (0 - f) * y⟩ : ES)), zfa _ _ _ _, fun P hP => ⟨(⟨(0 - f), y, fp 1, (0 - f) * y⟩ : ES), ⟨_, _, _, _, rfl, (⟨⟨HlXv.out, HeXv.out⟩, ⟨HlYv.out, HeYv.out⟩, ⟨l1, e1⟩, ⟨l2, e2⟩⟩ : PtZ zXv zYv z1 z2 (⟨(0 - f), y, fp 1, (0 - f) * y⟩ : ES))⟩, hri.2 P hP⟩, zad (HE.out.trans N2) hg3 (by have := HO.out; omega)⟩
 ·have hcn : ¬ nb ((leN yl : Nat) : Int) = yl := nbc_not (by omega)
  have B0 : Ext wb wb.drew := Ext.drew _
  refine wp_region_held_drew (S := fun w' => Ext wb w') (by kernel_rfl) B0 (fun hHeld => ?_)
  refine tke 0 (.agg ((yl).map bval).toArray) rfl (yieldsIf_load_mid (by rfl) _ _ rfl A 0 rfl _ _ (fun w h => zbe HM.out h) Tryz.underlying23 rfl HIY.out) hHeld ?_
  simp only [Act.put, nrm]
  refine tke 2 (.agg ((yl).map bval).toArray) rfl (yieldsIf_load_mid (by rfl) _ _ rfl A 0 rfl _ _ (fun w h => zbe HM.out h) Tryz.underlying23 rfl HIY.out) hHeld ?_
  simp only [Act.put, nrm]
  refine rdy 1 rfl fun K hK => ?_
  go_simp
  refine (rCanon_num yl _ HYL.out).mono ?_
  rintro e m1 ⟨rfl, b1⟩
  have N1 : Ext wb m1 := B0.trans b1
  refine hK.out _ _ N1 (fun hHeld => ?_)
  clear hK K
  try simp only [Act.put, nrm]
  refine tke 3 (.bool true) rfl (yi_neqB _ _ _ _ _ 32 _ (nb ((leN yl : Nat) : Int)) (yl) true (by rfl) rfl (decide_eq_false hcn) Tryz.underlying23 Tryz.underlying5 zcv zck zco rfl rfl (nbc_length _) (HYL.out)) hHeld ?_
  simp only [Act.put, nrm]
  refine dne ?_
  have hNN := jh (N1 : Ext wb m1)
  have HM := jh (zaa HM.out hNN.out)
  have HR := jh (zaa HR.out hNN.out)
  have HE := jh (HE.out.trans hNN.out)
  clear hNN
  generalize m1 = wc at *
  have HPN : Hid (pN ≤ leN yl) := jh (by omega)
  clear hcn hp
  have HNO := jh (may_no_y HNL.out (by rw [← HYE.out]; exact HPN.out))
  go_wp2_with (refine zab rfl _ _ _ rfl (A + 1) (ints .i64 (List.replicate 64 0)) rfl rfl _ _ HR.out rfl HIZ.out (zao _ _) ?_; intro w9 hb9 hg9)
  refine bodyPost_ret (zar rfl _ (A + 1) _ _ _ rfl hb9 Tryz.underlying70 rfl HIZ.out) rfl ?_
  exact ⟨_, by rw [mayB_false HNO.out]; rfl, by rw [zac]; rfl, zao _ _, fun P hP => absurd ⟨P, hP⟩ HNO.out, zad HE.out hg9 (by have := HO.out; omega)⟩
end Go.Proofs.YthafgicndklgfaaGreatDoor
