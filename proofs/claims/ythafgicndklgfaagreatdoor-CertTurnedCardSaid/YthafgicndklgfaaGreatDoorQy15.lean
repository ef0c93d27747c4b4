/- Lemmas. -/
import Derived.Test.YthafgicndklgfaaGreatDoorQy14
namespace Go.Proofs.YthafgicndklgfaaGreatDoor
set_option linter.unusedVariables false
set_option maxRecDepth 100000
set_option maxHeartbeats 32000000
set_option linter.unusedSimpArgs false
open Go.RowKit
theorem nbc_length (x : Int) : (nb x).length = 32 := zav _ _
theorem rread_f (n : List UInt8) (w : World) (hn : n.length = 32) (hD : GlobD w) (hG : Glob w) : Calls Tryz.prog 48 #[.agg (n.map bval).toArray] w fun e w' => ∃ cs : List Value, e = .returned (.tuple #[.agg cs.toArray, .bool (mayB n)]) ∧ cs.length = 64 ∧ (∀ v ∈ cs, v.oneCell' = true) ∧ (∀ P, encB P = n → ∃ s, PtV (.agg cs.toArray) s ∧ s.is P) ∧ Below w.heap.size w w' := by
 have HNL := jh hn
 have HGD := jh hD
 have HGR := jh hG
 clear hn hD hG
 have HB := jh (boxes2 w (n.map bval) (ints .i64 (List.replicate 64 0)) 23 70)
 obtain ⟨yl, hyl⟩ : ∃ yl, yl = yB n := ⟨_, rfl⟩
 obtain ⟨b, hb⟩ : ∃ b, b = bitN n := ⟨_, rfl⟩
 have HYL : Hid (yl.length = 32) := jh (by rw [hyl]; exact maskB_length HNL.out)
 have HX1 : Hid ((n.map bval).set 31 (.int .u8 (bits .and .u8 ((n.getD 31 0).toNat : Int) 127)) = yl.map bval) := jh (by
  have e1 := u8_and (n.getD 31 0) 127
  rw [show (127 : Int) = ((127 : UInt8).toNat : Int) from rfl, e1, u8_set, hyl]
  rfl)
 have hsa : ((n.getD 31 0).toNat : Int) / 128 = (b : Int) := by rw [hb]; unfold bitN; omega
 have hsb : ((n.getD 31 0).toNat : Int) / 2 ^ 7 = (b : Int) := hsa
 have hb2 : b < 2 := by rw [hb]; exact bitN_lt n
 have hb0 : (0 : Int) ≤ (b : Int) := Int.natCast_nonneg _
 have hb256 : (b : Int) < 256 := by omega
 have HYE := jh hyl
 have HBE := jh hb
 clear hyl hb
 go_enter Tryz.func48, Tryz.ntmps48
 go_upto_region 1 with (fail)
 obtain ⟨H1, H2, HE⟩ := HB.out
 change Code.wp _ _ _ _ ((w.alloc (.cells (n.map bval).toArray 23)).alloc (.cells (ints .i64 (List.replicate 64 0)).toArray 70))
 generalize (w.alloc (.cells (n.map bval).toArray 23)).alloc (.cells (ints .i64 (List.replicate 64 0)).toArray 70) = wa at *
 obtain ⟨A, hA⟩ : ∃ A, A = w.heap.size := ⟨_, rfl⟩
 have HO : Hid (w.heap.size ≤ A) := jh (by omega)
 rw [← hA] at H1 H2 ⊢
 have HN := jh H1
 have HR := jh H2
 have HE : Hid (Ext w wa) := jh HE
 clear hA HB H1 H2
 have c1 := HN.out.cell 31
 rw [zbg (by rw [HNL.out]; omega)] at c1
 have f1 := HN.out.free 31
 generalize ((n.getD 31 0).toNat : Int) = q1 at *
 go_upto_region 3 with (fail)
 have HM := jh (HN.out.set 31 (.int .u8 (bits .and .u8 q1 127)))
 rw [HX1.out] at HM
 have HR := jh (HR.out.far (a := ⟨A, 31, none⟩) (by simp) (.int .u8 (bits .and .u8 q1 127)))
 have HE := jh (Below.setCell HE.out (p := ⟨A, 31, none⟩) (by have := HO.out; simp; omega) (.int .u8 (bits .and .u8 q1 127)))
 generalize bits .and .u8 q1 127 = v1 at *
 generalize wa.setCell ⟨A, 31, none⟩ (.int .u8 v1) = wb at *
 have HE : Hid (Ext w wb) := jh HE.out
 clear c1 f1 HX1 hsa hsb HN
 have HIY := jh (zac HYL.out)
 have HIZ : Hid ((Tryz.prog.info? 70).map (·.size) = some (ints .i64 (List.replicate 64 0)).length) := jh (by rw [zaa]; kernel_rfl)
 by_cases hp : leN yl < pN
 ·have hcn : nb ((leN yl : Nat) : Int) = yl := nbc_self HYL.out hp
  have HPN := jh hp
  clear hp
  have B0 : Ext wb wb.drew := Ext.drew _
  refine wp_region_held_drew (S := fun w' => Ext wb w') (by kernel_rfl) B0 (fun hW => ?_)
  refine tke 0 (.agg ((yl).map bval).toArray) rfl (sld A 0 (fun w h => zah HM.out h) q100 HIY.out) hW ?_
  simp only [nm]
  refine tke 2 (.agg ((yl).map bval).toArray) rfl (sld A 0 (fun w h => zah HM.out h) q100 HIY.out) hW ?_
  simp only [nm]
  refine rdy 1 rfl fun K hK => ?_
  go_simp
  refine (rCanon_num yl _ HYL.out).mono ?_
  rintro e m1 ⟨rfl, b1⟩
  have N1 : Ext wb m1 := B0.trans b1
  refine hK.out _ _ N1 (fun hW => ?_)
  clear hK K
  try simp only [nm]
  refine tke 3 (.bool false) rfl (yi_neqB _ _ _ _ _ 32 _ (nb ((leN yl : Nat) : Int)) (yl) false (by rfl) rfl (decide_eq_true hcn) q100 q111 zch zby zcb rfl rfl (nbc_length _) (HYL.out)) hW ?_
  simp only [nm]
  refine dne ?_
  have hNN := jh (N1 : Ext wb m1)
  have HM := xb HM hNN.out
  have HR := xb HR hNN.out
  have HE := xt HE hNN.out
  clear hNN
  generalize m1 = wc at *
  clear hcn
  obtain ⟨y, hy⟩ : ∃ y, y = fp ((leN yl : Nat) : Int) := ⟨_, rfl⟩
  go_wp2_with (refine slb A HM.out q100 HIY.out ?_)
  refine (rin_f yl wc HYL.out).mono ?_
  rintro e wl1 ⟨r, rfl, hr, hb⟩
  obtain ⟨z, hz, lz⟩ := hr.form
  subst hz
  rw [← hy] at hr
  have HM := xb HM hb
  have HR := xb HR hb
  have HE := xt HE hb
  clear hb
  have HYF := jh hy
  clear hy
  have HZ := jh (Blk.made wl1 (ints .i64 (List.replicate 16 0)) 68)
  have HEA := jh (Ext.alloc wl1 (.cells (ints .i64 (List.replicate 16 0)).toArray 68))
  have HI := jh (zau lz)
  have HL : Hid ((ints .i64 z).length = (ints .i64 (List.replicate 16 0)).length) := jh (by rw [zaa, lz]; rfl)
  go_upto_region 6 with (refine ssb wl1.heap.size (ints .i64 z) HZ.out HL.out HI.out (zaj _ _) ?_; intro wl2 hbm hgm)
  have HX := jh (zab HEA.out hgm (q102 _))
  obtain ⟨TYv, hT⟩ : ∃ T, T = wl1.heap.size := ⟨_, rfl⟩
  have HTYv : Hid (A + 1 < TYv) := jh (by rw [hT]; exact HR.out.lt)
  rw [← hT] at hbm ⊢
  have HM := xb HM HX.out
  have HR := xb HR HX.out
  have HE := xt HE HX.out
  have EYv : Hid (ElB wl2 TYv (y)) := jh ⟨z, lz, hbm, hr⟩
  have HO := jh (And.intro HO.out HTYv.out)
  clear hbm hgm HZ HEA HX hT hr HI HL lz
  obtain ⟨zYv, lYv, bYv, eYv⟩ := EYv.out
  have HbYv := jh bYv
  have HeYv := jh eYv
  have HlYv := jh lYv
  have HiYv := jh (zau lYv)
  clear bYv eYv lYv
  go_wp2_with (first | (refine slb TYv HbYv.out q103 HiYv.out ?_))
  refine (zfg wl2 HeYv.out HeYv.out).mono ?_
  rintro e wl3 ⟨r, rfl, hr, hb⟩
  obtain ⟨z, hz, lz⟩ := hr.form
  subst hz
  have EYv := jh (EYv.out.ext hb)
  have HM := xb HM hb
  have HR := xb HR hb
  have HE := xt HE hb
  clear hb
  have HZ := jh (Blk.made wl3 (ints .i64 (List.replicate 16 0)) 68)
  have HEA := jh (Ext.alloc wl3 (.cells (ints .i64 (List.replicate 16 0)).toArray 68))
  have HI := jh (zau lz)
  have HL : Hid ((ints .i64 z).length = (ints .i64 (List.replicate 16 0)).length) := jh (by rw [zaa, lz]; rfl)
  go_upto_region 7 with (refine ssb wl3.heap.size (ints .i64 z) HZ.out HL.out HI.out (zaj _ _) ?_; intro wl4 hbm hgm)
  have HX := jh (zab HEA.out hgm (q102 _))
  obtain ⟨TYq, hT⟩ : ∃ T, T = wl3.heap.size := ⟨_, rfl⟩
  have HTYq : Hid (TYv < TYq) := jh (by rw [hT]; exact EYv.out.lt)
  rw [← hT] at hbm ⊢
  have EYv := jh (EYv.out.ext HX.out)
  have HM := xb HM HX.out
  have HR := xb HR HX.out
  have HE := xt HE HX.out
  have EYq : Hid (ElB wl4 TYq (y * y)) := jh ⟨z, lz, hbm, hr⟩
  have HO := jh (And.intro HO.out HTYq.out)
  clear hbm hgm HZ HEA HX hT hr HI HL lz
  obtain ⟨zYq, lYq, bYq, eYq⟩ := EYq.out
  have HbYq := jh bYq
  have HeYq := jh eYq
  have HlYq := jh lYq
  have HiYq := jh (zau lYq)
  clear bYq eYq lYq
  try go_wp2_with fail
  try simp only [nm]
  go_cut [7, 8] from 27 to 40 (fun vq vb wq => ∃ g f, vq = .pointer (some ⟨g, 0, none⟩) ∧ vb = .bool (rtB ((y * y - fp 1) * fi (dF * (y * y) + fp 1))) ∧ wl4.heap.size ≤ g ∧ ElB wq g f ∧ (rtB ((y * y - fp 1) * fi (dF * (y * y) + fp 1)) = true → f * f = (y * y - fp 1) * fi (dF * (y * y) + fp 1)) ∧ Ext wl4 wq)
  case first =>
   have B0 : Ext wl4 wl4.drew := Ext.drew _
   refine wp_region_held_drew (S := fun w' => Ext wl4 w') (by kernel_rfl) B0 (fun hW => ?_)
   refine tke 0 (.agg (ints .i64 zYq).toArray) rfl (sld TYq 0 (fun w h => zah HbYq.out h) q103 HiYq.out) hW ?_
   simp only [nm]
   refine tke 3 (.agg (ints .i64 dL).toArray) rfl (sld 2 0 (fun w h => HGD.out.ext (HE.out.trans h)) q103 (zau d_el.len)) hW ?_
   simp only [nm]
   refine tke 4 (.agg (ints .i64 zYq).toArray) rfl (sld TYq 0 (fun w h => zah HbYq.out h) q103 HiYq.out) hW ?_
   simp only [nm]
   refine Fl.go (f := 14) (d := 7) (zs := (ints .i64 (List.replicate 16 0))) (T := 68) (B := (wl4).heap.size) ?_ hW
   clear hW
   refine Fl.step 1 rfl rfl rfl rfl rfl q123 (fun _ _ h1 h2 => h1.trans h2) (fun _ h => h.size) (fun z1 u K hz1 hSz hK => ?_)
   have NZ1 : Ext wl4 z1 := B0.trans hz1
   clear hSz
   go_simp
   refine (rone_f 1 _ (by omega) (by omega)).mono ?_
   rintro e m1 ⟨v1, rfl, e1, b1⟩
   obtain ⟨z1, hz1, l1⟩ := e1.form
   subst hz1
   have N1 : Ext wl4 m1 := NZ1.trans b1
   refine hK.out (.agg (ints .i64 z1).toArray) _ b1 N1 ?_
   clear hK K u
   try simp only [nm]
   refine Fl.step 2 rfl rfl rfl rfl rfl q123 (fun _ _ h1 h2 => h1.trans h2) (fun _ h => h.size) (fun z2 u K hz2 hSz hK => ?_)
   have NZ2 : Ext wl4 z2 := N1.trans hz2
   clear hSz
   go_simp
   refine (rsub_f _ HeYq.out e1).mono ?_
   rintro e m2 ⟨v2, rfl, e2, b2⟩
   obtain ⟨z2, hz2, l2⟩ := e2.form
   subst hz2
   have N2 : Ext wl4 m2 := NZ2.trans b2
   refine hK.out (.agg (ints .i64 z2).toArray) _ b2 N2 ?_
   clear hK K u
   try simp only [nm]
   refine Fl.step 5 rfl rfl rfl rfl rfl q123 (fun _ _ h1 h2 => h1.trans h2) (fun _ h => h.size) (fun z3 u K hz3 hSz hK => ?_)
   have NZ3 : Ext wl4 z3 := N2.trans hz3
   clear hSz
   go_simp
   refine (zfg _ d_el.el HeYq.out).mono ?_
   rintro e m3 ⟨v3, rfl, e3, b3⟩
   obtain ⟨z3, hz3, l3⟩ := e3.form
   subst hz3
   have N3 : Ext wl4 m3 := NZ3.trans b3
   refine hK.out (.agg (ints .i64 z3).toArray) _ b3 N3 ?_
   clear hK K u
   try simp only [nm]
   refine Fl.step 6 rfl rfl rfl rfl rfl q123 (fun _ _ h1 h2 => h1.trans h2) (fun _ h => h.size) (fun z4 u K hz4 hSz hK => ?_)
   have NZ4 : Ext wl4 z4 := N3.trans hz4
   clear hSz
   go_simp
   refine (rone_f 1 _ (by omega) (by omega)).mono ?_
   rintro e m4 ⟨v4, rfl, e4, b4⟩
   obtain ⟨z4, hz4, l4⟩ := e4.form
   subst hz4
   have N4 : Ext wl4 m4 := NZ4.trans b4
   refine hK.out (.agg (ints .i64 z4).toArray) _ b4 N4 ?_
   clear hK K u
   try simp only [nm]
   refine Fl.step 7 rfl rfl rfl rfl rfl q123 (fun _ _ h1 h2 => h1.trans h2) (fun _ h => h.size) (fun z5 u K hz5 hSz hK => ?_)
   have NZ5 : Ext wl4 z5 := N4.trans hz5
   clear hSz
   go_simp
   refine (radd_f _ e3 e4).mono ?_
   rintro e m5 ⟨v5, rfl, e5, b5⟩
   obtain ⟨z5, hz5, l5⟩ := e5.form
   subst hz5
   have N5 : Ext wl4 m5 := NZ5.trans b5
   refine hK.out (.agg (ints .i64 z5).toArray) _ b5 N5 ?_
   clear hK K u
   try simp only [nm]
   refine Fl.step 8 rfl rfl rfl rfl rfl q123 (fun _ _ h1 h2 => h1.trans h2) (fun _ h => h.size) (fun z6 u K hz6 hSz hK => ?_)
   have NZ6 : Ext wl4 z6 := N5.trans hz6
   clear hSz
   go_simp
   refine (rinv_f _ e5).mono ?_
   rintro e m6 ⟨v6, rfl, e6, b6⟩
   obtain ⟨z6, hz6, l6⟩ := e6.form
   subst hz6
   have N6 : Ext wl4 m6 := NZ6.trans b6
   refine hK.out (.agg (ints .i64 z6).toArray) _ b6 N6 ?_
   clear hK K u
   try simp only [nm]
   refine Fl.step 9 rfl rfl rfl rfl rfl q123 (fun _ _ h1 h2 => h1.trans h2) (fun _ h => h.size) (fun z7 u K hz7 hSz hK => ?_)
   have NZ7 : Ext wl4 z7 := N6.trans hz7
   clear hSz
   go_simp
   refine (zfg _ e2 e6).mono ?_
   rintro e m7 ⟨v7, rfl, e7, b7⟩
   obtain ⟨z7, hz7, l7⟩ := e7.form
   subst hz7
   have N7 : Ext wl4 m7 := NZ7.trans b7
   refine hK.out (.agg (ints .i64 z7).toArray) _ b7 N7 ?_
   clear hK K u
   try simp only [nm]
   refine Fl.step 10 rfl rfl rfl rfl rfl q123 (fun _ _ h1 h2 => h1.trans h2) (fun _ h => h.size) (fun z8 u K hz8 hSz hK => ?_)
   have NZ8 : Ext wl4 z8 := N7.trans hz8
   clear hSz
   go_simp
   refine (rroot_f _ e7 (HGR.out.ext (HE.out.trans NZ8))).mono ?_
   rintro e m8 ⟨v8, f8, rfl, e8, q8, b8⟩
   obtain ⟨z8, hz8, l8⟩ := e8.form
   subst hz8
   have N8 : Ext wl4 m8 := NZ8.trans b8
   refine hK.out (.tuple #[.agg (ints .i64 z8).toArray, .bool (rtB ((y * y - fp 1) * fi (dF * (y * y) + fp 1)))]) _ b8 N8 ?_
   clear hK K u
   try simp only [nm]
   refine Fl.take 11 (.tuple #[.agg (ints .i64 z8).toArray, .bool (rtB ((y * y - fp 1) * fi (dF * (y * y) + fp 1)))]) rfl (fun u => zbm _ (.tuple #[.agg (ints .i64 z8).toArray, .bool (rtB ((y * y - fp 1) * fi (dF * (y * y) + fp 1)))]) (by rfl) rfl rfl) ?_
   simp only [nm]
   refine Fl.take 12 (.agg (ints .i64 z8).toArray) rfl (fun u => zbj (.agg (ints .i64 z8).toArray) (by rfl) (fun w _ => by go_simp)) ?_
   simp only [nm]
   refine Fl.take 13 (.bool (rtB ((y * y - fp 1) * fi (dF * (y * y) + fp 1)))) rfl (fun u => zbj (.bool (rtB ((y * y - fp 1) * fi (dF * (y * y) + fp 1)))) (by rfl) (fun w _ => by go_simp)) ?_
   simp only [nm]
   refine Fl.last rfl rfl rfl rfl q123 (fun _ _ h1 h2 => h1.trans h2) (fun _ h => h.size) (fun m9 g9 b9 hW l9 z9 => ?_)
   try simp only [nm]
   have N9 : Ext wl4 m9 := N8.trans b9
   refine rdy 15 rfl fun K hK => ?_
   refine zbn (by rfl) ?_
   refine zak _ _ _ rfl g9 (ints .i64 z8) rfl rfl _ _ z9 (by rw [zaa, l8]; rfl) (zau l8) (zaj _ _) ?_
   intro m10 hb10 hg10
   have N10 : Ext wl4 m10 := zab N9 hg10 l9
   refine hK.out _ _ N10 (fun hW => ?_)
   clear hK K
   try simp only [nm]
   refine rdy 16 rfl fun K hK => ?_
   go_simp
   refine hK.out _ _ N10 (fun hW => ?_)
   clear hK K
   try simp only [nm]
   refine dne ?_
   go_wp2_with fail
   go_meet
   exact ⟨_, f8, rfl, rfl, l9, ⟨z8, l8, hb10, e8⟩, q8, N10⟩
  case rest =>
   obtain ⟨TXv, f, rfl, rfl, hTg, hEl, hsq, hX⟩ := hcut
   have HTXv : Hid (TYq < TXv) := jh (q114 EYq.out.lt hTg)
   have EYv := jh (EYv.out.ext hX)
   have EYq := jh (EYq.out.ext hX)
   have HM := xb HM hX
   have HR := xb HR hX
   have HE := xt HE hX
   have EXv := jh hEl
   have HO := jh (And.intro HO.out HTXv.out)
   clear hEl hX hTg
   generalize wc = wl5 at *
   rw [rad_eq] at hsq ⊢
   cases hrt : rtB (rad y) with
   | false =>
    have HNO := jh (may_no_root HNL.out (by rw [← HYE.out]; exact HPN.out) (fun x hx => by rw [← HYE.out, ← HYF.out] at hx; rw [rtB_true ⟨x, hx⟩] at hrt; cases hrt))
    go_wp2_with (refine ssb (A + 1) (ints .i64 (List.replicate 64 0)) HR.out rfl HIZ.out (zaj _ _) ?_; intro w9 hb9 hg9)
    refine bodyPost_ret (zai rfl _ (A + 1) _ _ _ rfl hb9 q132 rfl HIZ.out) rfl ?_
    exact ⟨_, by rw [zew HNO.out]; rfl, by rw [zaa]; rfl, zaj _ _, fun P hP => absurd ⟨P, hP⟩ HNO.out, zab HE.out hg9 (by have := HO.out; omega)⟩
   | true =>
    have HSQ := jh (hsq hrt)
    clear hsq hrt
    obtain ⟨zXv, lXv, bXv, eXv⟩ := EXv.out
    have HbXv := jh bXv
    have HeXv := jh eXv
    have HlXv := jh lXv
    have HiXv := jh (zau lXv)
    clear bXv eXv lXv
    go_wp2_with (refine slb TXv HbXv.out q103 HiXv.out ?_)
    refine (rout_f wl5 HeXv.out).mono ?_
    rintro e wl6 ⟨rfl, hb⟩
    have EYv := jh (EYv.out.ext hb)
    have EYq := jh (EYq.out.ext hb)
    have EXv := jh (EXv.out.ext hb)
    have HM := xb HM hb
    have HR := xb HR hb
    have HE := xt HE hb
    clear hb
    have HZ := jh (Blk.made wl6 (ints .u8 (List.replicate 32 0)) 23)
    have HEA := jh (Ext.alloc wl6 (.cells (ints .u8 (List.replicate 32 0)).toArray 23))
    have HL : Hid (((nbF f).map bval).length = (ints .u8 (List.replicate 32 0)).length) := jh (by rw [q101, zae, zaa]; rfl)
    go_upto_region 11 with (refine ssb wl6.heap.size ((nbF f).map bval) HZ.out HL.out (zac (zae _)) (zaf _) ?_; intro wl7 hb2 hg2)
    have HX := jh (zab HEA.out hg2 (q102 _))
    obtain ⟨Wn, hT⟩ : ∃ T, T = wl6.heap.size := ⟨_, rfl⟩
    have HTW : Hid (TXv < Wn) := jh (by rw [hT]; exact EXv.out.lt)
    rw [← hT] at hb2 ⊢
    have EYv := jh (EYv.out.ext HX.out)
    have EYq := jh (EYq.out.ext HX.out)
    have EXv := jh (EXv.out.ext HX.out)
    have HM := xb HM HX.out
    have HR := xb HR HX.out
    have HE := xt HE HX.out
    have HWn := jh hb2
    have HO := jh (And.intro HO.out HTW.out)
    clear hb2 hg2 HZ HEA HX hT HL
    have HFL := jh (zae f)
    have hodd := nbF_odd f
    by_cases f0 : f = 0
    ·have HQ : Hid (decide (nbF f = zer) = true) := jh (decide_eq_true (by rw [f0]; exact nbF_nought))
     by_cases b1 : b = 1
     ·have hb1 : (b : Int) = 1 := by omega
      have HNF := jh (may_no_f HNL.out (by rw [← HYE.out]; exact HPN.out) (f := f) (by rw [← HYE.out, ← HYF.out]; exact HSQ.out) f0 (by rw [← HBE.out]; exact b1))
      clear b1 f0
      go_upto_region 12 with (first | (refine wpList_eql (by rfl) _ _ _ _ _ _ 32 _ (nbF f) zer true rfl (Or.inl ⟨rfl, HQ.out⟩) q100 q111 zch zby zcb rfl rfl HFL.out zdx ?_) | (refine zbo (by rfl) _ _ rfl Wn rfl _ _ _ _ HWn.out q100 (zac HFL.out) ?_))
      have HNO := jh (HNF.out)
      go_wp2_with (refine ssb (A + 1) (ints .i64 (List.replicate 64 0)) HR.out rfl HIZ.out (zaj _ _) ?_; intro w9 hb9 hg9)
      refine bodyPost_ret (zai rfl _ (A + 1) _ _ _ rfl hb9 q132 rfl HIZ.out) rfl ?_
      exact ⟨_, by rw [zew HNO.out]; rfl, by rw [zaa]; rfl, zaj _ _, fun P hP => absurd ⟨P, hP⟩ HNO.out, zab HE.out hg9 (by have := HO.out; omega)⟩
     ·have hb1 : decide ((b : Int) = 1) = false := decide_eq_false (by omega)
      have HB1 := jh b1
      have hb1n : ¬ (b : Int) = 1 := by omega
      have hb1m : decide (b = 1) = false := decide_eq_false b1
      clear f0
      go_upto_region 13 with (first | (refine wpList_eql (by rfl) _ _ _ _ _ _ 32 _ (nbF f) zer true rfl (Or.inl ⟨rfl, HQ.out⟩) q100 q111 zch zby zcb rfl rfl HFL.out zdx ?_) | (refine zbo (by rfl) _ _ rfl Wn rfl _ _ _ _ HWn.out q100 (zac HFL.out) ?_))
      clear hb1 hb1n hb1m b1
      have HH0 : Hid (¬ (f = 0 ∧ bitN n = 1)) := jh (fun h => HB1.out (by rw [HBE.out]; exact h.2))
      have c0 := HWn.out.cell 0
      rw [zbg (by rw [HFL.out]; omega)] at c0
      have hq1 := andU1 ((nbF f).getD 0 0).toNat
      rw [hodd] at hq1
      generalize (((nbF f).getD 0 0).toNat : Int) = q0 at *
      clear hodd
      by_cases hpar : f.val % 2 = b
      ·have hq : bits .and .u8 q0 1 = (b : Int) := by rw [hq1, hpar]
       have HXX : Hid (f = pickX f (bitN n)) := jh (by unfold pickX; rw [← HBE.out, if_pos hpar])
       clear hq1 hpar
       go_upto_region 15 with (fail)
       clear hq c0
       obtain ⟨zXv, lXv, bXv, eXv⟩ := EXv.out
       have HbXv := jh bXv
       have HeXv := jh eXv
       have HlXv := jh lXv
       have HiXv := jh (zau lXv)
       clear bXv eXv lXv
       obtain ⟨zYv, lYv, bYv, eYv⟩ := EYv.out
       have HbYv := jh bYv
       have HeYv := jh eYv
       have HlYv := jh lYv
       have HiYv := jh (zau lYv)
       clear bYv eYv lYv
       have B0 : Ext wl7 wl7.drew := Ext.drew _
       refine wp_region_held_drew (S := fun w' => Far (A + 1) wl7 w') (by kernel_rfl) (zbl B0) (fun hW => ?_)
       refine tke 0 (.agg (ints .i64 zXv).toArray) rfl (sld TXv 0 (fun w h => zba HbXv.out (by have := HO.out; omega) h) q103 HiXv.out) hW ?_
       simp only [nm]
       refine tke 1 (.agg (ints .i64 zYv).toArray) rfl (sld TYv 0 (fun w h => zba HbYv.out (by have := HO.out; omega) h) q103 HiYv.out) hW ?_
       simp only [nm]
       refine tke 3 (.agg (ints .i64 zXv).toArray) rfl (sld TXv 0 (fun w h => zba HbXv.out (by have := HO.out; omega) h) q103 HiXv.out) hW ?_
       simp only [nm]
       refine tke 4 (.agg (ints .i64 zYv).toArray) rfl (sld TYv 0 (fun w h => zba HbYv.out (by have := HO.out; omega) h) q103 HiYv.out) hW ?_
       simp only [nm]
       refine rdy 2 rfl fun K hK => ?_
       go_simp
       refine (rone_f 1 _ (by omega) (by omega)).mono ?_
       rintro e m1 ⟨v1, rfl, e1, b1⟩
       obtain ⟨z1, hz1, l1⟩ := e1.form
       subst hz1
       have N1 : Ext wl7 m1 := B0.trans b1
       refine hK.out _ _ (zbl N1) (fun hW => ?_)
       clear hK K
       try simp only [nm]
       refine rdy 5 rfl fun K hK => ?_
       go_simp
       refine (zfg _ HeXv.out HeYv.out).mono ?_
       rintro e m2 ⟨v2, rfl, e2, b2⟩
       obtain ⟨z2, hz2, l2⟩ := e2.form
       subst hz2
       have N2 : Ext wl7 m2 := N1.trans b2
       refine hK.out _ _ (zbl N2) (fun hW => ?_)
       clear hK K
       try simp only [nm]
       refine tke 6 (.agg (ptC zXv zYv z1 z2).toArray) rfl (yi_build _ _ _ _ (build_pt (⟨⟨HlXv.out, HeXv.out⟩, ⟨HlYv.out, HeYv.out⟩, ⟨l1, e1⟩, ⟨l2, e2⟩⟩ : PtZ zXv zYv z1 z2 (⟨f, y, fp 1, f * y⟩ : ES))) (by rfl) rfl (by simp [Act.eval])) hW ?_
       simp only [nm]
       refine rdy 7 rfl fun K hK => ?_
       refine zbn (by rfl) ?_
       refine zak _ _ _ rfl (A + 1) (ptC zXv zYv z1 z2) rfl rfl _ _ (zad HR.out N2) (by rw [zca ((⟨⟨HlXv.out, HeXv.out⟩, ⟨HlYv.out, HeYv.out⟩, ⟨l1, e1⟩, ⟨l2, e2⟩⟩ : PtZ zXv zYv z1 z2 (⟨f, y, fp 1, f * y⟩ : ES))), zaa]; rfl) (zcl ((⟨⟨HlXv.out, HeXv.out⟩, ⟨HlYv.out, HeYv.out⟩, ⟨l1, e1⟩, ⟨l2, e2⟩⟩ : PtZ zXv zYv z1 z2 (⟨f, y, fp 1, f * y⟩ : ES)))) (zeo _ _ _ _) ?_
       intro m3 hb3 hg3
       refine hK.out _ _ (zcn N2 hg3) (fun hW => ?_)
       clear hK K
       try simp only [nm]
       refine rdy 8 rfl fun K hK => ?_
       go_simp
       refine hK.out _ _ (zcn N2 hg3) (fun hW => ?_)
       clear hK K
       try simp only [nm]
       refine dne ?_
       go_wp2_with fail
       refine bodyPost_ret (zai rfl _ (A + 1) _ _ _ rfl hb3 q132 rfl (zcl (⟨⟨HlXv.out, HeXv.out⟩, ⟨HlYv.out, HeYv.out⟩, ⟨l1, e1⟩, ⟨l2, e2⟩⟩ : PtZ zXv zYv z1 z2 (⟨f, y, fp 1, f * y⟩ : ES)))) rfl ?_
       have hri := read_is HNL.out (by rw [← HYE.out]; exact HPN.out) (f := f) (by rw [← HYE.out, ← HYF.out]; exact HSQ.out) HH0.out HXX.out
       rw [← HYE.out, ← HYF.out] at hri
       exact ⟨_, by rw [zef hri.1]; rfl, zca (⟨⟨HlXv.out, HeXv.out⟩, ⟨HlYv.out, HeYv.out⟩, ⟨l1, e1⟩, ⟨l2, e2⟩⟩ : PtZ zXv zYv z1 z2 (⟨f, y, fp 1, f * y⟩ : ES)), zeo _ _ _ _, fun P hP => ⟨(⟨f, y, fp 1, f * y⟩ : ES), ⟨_, _, _, _, rfl, (⟨⟨HlXv.out, HeXv.out⟩, ⟨HlYv.out, HeYv.out⟩, ⟨l1, e1⟩, ⟨l2, e2⟩⟩ : PtZ zXv zYv z1 z2 (⟨f, y, fp 1, f * y⟩ : ES))⟩, hri.2 P hP⟩, zab (HE.out.trans N2) hg3 (by have := HO.out; omega)⟩
      ·obtain ⟨c, hc⟩ : ∃ c, c = f.val % 2 := ⟨_, rfl⟩
       have hq : bits .and .u8 q0 1 = (c : Int) := by rw [hq1, hc]
       have hcb : ¬ (c : Int) = (b : Int) := by rw [hc]; omega
       have hcd : decide ((c : Int) = (b : Int)) = false := decide_eq_false hcb
       have HXX : Hid (0 - f = pickX f (bitN n)) := jh (by unfold pickX; rw [← HBE.out, if_neg hpar, f_neg])
       clear hq1 hpar hc
       go_upto_region 14 with (fail)
       clear hq c0 hcb hcd
       obtain ⟨zXv, lXv, bXv, eXv⟩ := EXv.out
       have HbXv := jh bXv
       have HeXv := jh eXv
       have HlXv := jh lXv
       have HiXv := jh (zau lXv)
       clear bXv eXv lXv
       go_wp2_with (refine slb TXv HbXv.out q103 HiXv.out ?_)
       refine (rsub_f wl7 el_zero HeXv.out).mono ?_
       rintro e wl8 ⟨r, rfl, hr, hb⟩
       obtain ⟨z, hz, lz⟩ := hr.form
       subst hz
       have EYv := jh (EYv.out.ext hb)
       have EYq := jh (EYq.out.ext hb)
       have EXv := jh (EXv.out.ext hb)
       have HM := xb HM hb
       have HR := xb HR hb
       have HWn := xb HWn hb
       have HE := xt HE hb
       clear hb
       obtain ⟨zXv, lXv, bXv, eXv⟩ := EXv.out
       have HbXv := jh bXv
       have HeXv := jh eXv
       have HlXv := jh lXv
       have HiXv := jh (zau lXv)
       clear bXv eXv lXv
       have HI := jh (zau lz)
       have HL : Hid ((ints .i64 z).length = (ints .i64 zXv).length) := jh (by rw [zaa, zaa, lz, HlXv.out])
       go_upto_region 15 with (refine ssb TXv (ints .i64 z) HbXv.out HL.out HI.out (zaj _ _) ?_; intro wl9 hbm hgm)
       have EYv := jh (EYv.out.grown hgm (by have := HO.out; simp; omega))
       have EYq := jh (EYq.out.grown hgm (by have := HO.out; simp; omega))
       have HM := jh (HM.out.grown hgm (by have := HO.out; simp; omega))
       have HR := jh (HR.out.grown hgm (by have := HO.out; simp; omega))
       have HWn := jh (HWn.out.grown hgm (by have := HO.out; simp; omega))
       have HE := jh (zab HE.out hgm (by have := HO.out; omega))
       have EXv : Hid (ElB wl9 TXv (0 - f)) := jh ⟨z, lz, hbm, hr⟩
       clear hbm hgm hr HI HL lz
       obtain ⟨zXv, lXv, bXv, eXv⟩ := EXv.out
       have HbXv := jh bXv
       have HeXv := jh eXv
       have HlXv := jh lXv
       have HiXv := jh (zau lXv)
       clear bXv eXv lXv
       obtain ⟨zYv, lYv, bYv, eYv⟩ := EYv.out
       have HbYv := jh bYv
       have HeYv := jh eYv
       have HlYv := jh lYv
       have HiYv := jh (zau lYv)
       clear bYv eYv lYv
       have B0 : Ext wl9 wl9.drew := Ext.drew _
       refine wp_region_held_drew (S := fun w' => Far (A + 1) wl9 w') (by kernel_rfl) (zbl B0) (fun hW => ?_)
       refine tke 0 (.agg (ints .i64 zXv).toArray) rfl (sld TXv 0 (fun w h => zba HbXv.out (by have := HO.out; omega) h) q103 HiXv.out) hW ?_
       simp only [nm]
       refine tke 1 (.agg (ints .i64 zYv).toArray) rfl (sld TYv 0 (fun w h => zba HbYv.out (by have := HO.out; omega) h) q103 HiYv.out) hW ?_
       simp only [nm]
       refine tke 3 (.agg (ints .i64 zXv).toArray) rfl (sld TXv 0 (fun w h => zba HbXv.out (by have := HO.out; omega) h) q103 HiXv.out) hW ?_
       simp only [nm]
       refine tke 4 (.agg (ints .i64 zYv).toArray) rfl (sld TYv 0 (fun w h => zba HbYv.out (by have := HO.out; omega) h) q103 HiYv.out) hW ?_
       simp only [nm]
       refine rdy 2 rfl fun K hK => ?_
       go_simp
       refine (rone_f 1 _ (by omega) (by omega)).mono ?_
       rintro e m1 ⟨v1, rfl, e1, b1⟩
       obtain ⟨z1, hz1, l1⟩ := e1.form
       subst hz1
       have N1 : Ext wl9 m1 := B0.trans b1
       refine hK.out _ _ (zbl N1) (fun hW => ?_)
       clear hK K
       try simp only [nm]
       refine rdy 5 rfl fun K hK => ?_
       go_simp
       refine (zfg _ HeXv.out HeYv.out).mono ?_
       rintro e m2 ⟨v2, rfl, e2, b2⟩
       obtain ⟨z2, hz2, l2⟩ := e2.form
       subst hz2
       have N2 : Ext wl9 m2 := N1.trans b2
       refine hK.out _ _ (zbl N2) (fun hW => ?_)
       clear hK K
       try simp only [nm]
       refine tke 6 (.agg (ptC zXv zYv z1 z2).toArray) rfl (yi_build _ _ _ _ (build_pt (⟨⟨HlXv.out, HeXv.out⟩, ⟨HlYv.out, HeYv.out⟩, ⟨l1, e1⟩, ⟨l2, e2⟩⟩ : PtZ zXv zYv z1 z2 (⟨(0 - f), y, fp 1, (0 - f) * y⟩ : ES))) (by rfl) rfl (by simp [Act.eval])) hW ?_
       simp only [nm]
       refine rdy 7 rfl fun K hK => ?_
       refine zbn (by rfl) ?_
       refine zak _ _ _ rfl (A + 1) (ptC zXv zYv z1 z2) rfl rfl _ _ (zad HR.out N2) (by rw [zca ((⟨⟨HlXv.out, HeXv.out⟩, ⟨HlYv.out, HeYv.out⟩, ⟨l1, e1⟩, ⟨l2, e2⟩⟩ : PtZ zXv zYv z1 z2 (⟨(0 - f), y, fp 1, (0 - f) * y⟩ : ES))), zaa]; rfl) (zcl ((⟨⟨HlXv.out, HeXv.out⟩, ⟨HlYv.out, HeYv.out⟩, ⟨l1, e1⟩, ⟨l2, e2⟩⟩ : PtZ zXv zYv z1 z2 (⟨(0 - f), y, fp 1, (0 - f) * y⟩ : ES)))) (zeo _ _ _ _) ?_
       intro m3 hb3 hg3
       refine hK.out _ _ (zcn N2 hg3) (fun hW => ?_)
       clear hK K
       try simp only [nm]
       refine rdy 8 rfl fun K hK => ?_
       go_simp
       refine hK.out _ _ (zcn N2 hg3) (fun hW => ?_)
       clear hK K
       try simp only [nm]
       refine dne ?_
       go_wp2_with fail
       refine bodyPost_ret (zai rfl _ (A + 1) _ _ _ rfl hb3 q132 rfl (zcl (⟨⟨HlXv.out, HeXv.out⟩, ⟨HlYv.out, HeYv.out⟩, ⟨l1, e1⟩, ⟨l2, e2⟩⟩ : PtZ zXv zYv z1 z2 (⟨(0 - f), y, fp 1, (0 - f) * y⟩ : ES)))) rfl ?_
       have hri := read_is HNL.out (by rw [← HYE.out]; exact HPN.out) (f := f) (by rw [← HYE.out, ← HYF.out]; exact HSQ.out) HH0.out HXX.out
       rw [← HYE.out, ← HYF.out] at hri
       exact ⟨_, by rw [zef hri.1]; rfl, zca (⟨⟨HlXv.out, HeXv.out⟩, ⟨HlYv.out, HeYv.out⟩, ⟨l1, e1⟩, ⟨l2, e2⟩⟩ : PtZ zXv zYv z1 z2 (⟨(0 - f), y, fp 1, (0 - f) * y⟩ : ES)), zeo _ _ _ _, fun P hP => ⟨(⟨(0 - f), y, fp 1, (0 - f) * y⟩ : ES), ⟨_, _, _, _, rfl, (⟨⟨HlXv.out, HeXv.out⟩, ⟨HlYv.out, HeYv.out⟩, ⟨l1, e1⟩, ⟨l2, e2⟩⟩ : PtZ zXv zYv z1 z2 (⟨(0 - f), y, fp 1, (0 - f) * y⟩ : ES))⟩, hri.2 P hP⟩, zab (HE.out.trans N2) hg3 (by have := HO.out; omega)⟩
    ·have HQ : Hid (decide (nbF f = zer) = false) := jh (decide_eq_false (fun h => f0 (nbF_zer h)))
     have HF0 := jh f0
     clear f0
     go_upto_region 13 with (first | (refine wpList_eql (by rfl) _ _ _ _ _ _ 32 _ (nbF f) zer false rfl (Or.inl ⟨rfl, HQ.out⟩) q100 q111 zch zby zcb rfl rfl HFL.out zdx ?_) | (refine zbo (by rfl) _ _ rfl Wn rfl _ _ _ _ HWn.out q100 (zac HFL.out) ?_))
     have HH0 : Hid (¬ (f = 0 ∧ bitN n = 1)) := jh (fun h => HF0.out h.1)
     have c0 := HWn.out.cell 0
     rw [zbg (by rw [HFL.out]; omega)] at c0
     have hq1 := andU1 ((nbF f).getD 0 0).toNat
     rw [hodd] at hq1
     generalize (((nbF f).getD 0 0).toNat : Int) = q0 at *
     clear hodd
     by_cases hpar : f.val % 2 = b
     ·have hq : bits .and .u8 q0 1 = (b : Int) := by rw [hq1, hpar]
      have HXX : Hid (f = pickX f (bitN n)) := jh (by unfold pickX; rw [← HBE.out, if_pos hpar])
      clear hq1 hpar
      go_upto_region 15 with (fail)
      clear hq c0
      obtain ⟨zXv, lXv, bXv, eXv⟩ := EXv.out
      have HbXv := jh bXv
      have HeXv := jh eXv
      have HlXv := jh lXv
      have HiXv := jh (zau lXv)
      clear bXv eXv lXv
      obtain ⟨zYv, lYv, bYv, eYv⟩ := EYv.out
      have HbYv := jh bYv
      have HeYv := jh eYv
      have HlYv := jh lYv
      have HiYv := jh (zau lYv)
      clear bYv eYv lYv
      have B0 : Ext wl7 wl7.drew := Ext.drew _
      refine wp_region_held_drew (S := fun w' => Far (A + 1) wl7 w') (by kernel_rfl) (zbl B0) (fun hW => ?_)
      refine tke 0 (.agg (ints .i64 zXv).toArray) rfl (sld TXv 0 (fun w h => zba HbXv.out (by have := HO.out; omega) h) q103 HiXv.out) hW ?_
      simp only [nm]
      refine tke 1 (.agg (ints .i64 zYv).toArray) rfl (sld TYv 0 (fun w h => zba HbYv.out (by have := HO.out; omega) h) q103 HiYv.out) hW ?_
      simp only [nm]
      refine tke 3 (.agg (ints .i64 zXv).toArray) rfl (sld TXv 0 (fun w h => zba HbXv.out (by have := HO.out; omega) h) q103 HiXv.out) hW ?_
      simp only [nm]
      refine tke 4 (.agg (ints .i64 zYv).toArray) rfl (sld TYv 0 (fun w h => zba HbYv.out (by have := HO.out; omega) h) q103 HiYv.out) hW ?_
      simp only [nm]
      refine rdy 2 rfl fun K hK => ?_
      go_simp
      refine (rone_f 1 _ (by omega) (by omega)).mono ?_
      rintro e m1 ⟨v1, rfl, e1, b1⟩
      obtain ⟨z1, hz1, l1⟩ := e1.form
      subst hz1
      have N1 : Ext wl7 m1 := B0.trans b1
      refine hK.out _ _ (zbl N1) (fun hW => ?_)
      clear hK K
      try simp only [nm]
      refine rdy 5 rfl fun K hK => ?_
      go_simp
      refine (zfg _ HeXv.out HeYv.out).mono ?_
      rintro e m2 ⟨v2, rfl, e2, b2⟩
      obtain ⟨z2, hz2, l2⟩ := e2.form
      subst hz2
      have N2 : Ext wl7 m2 := N1.trans b2
      refine hK.out _ _ (zbl N2) (fun hW => ?_)
      clear hK K
      try simp only [nm]
      refine tke 6 (.agg (ptC zXv zYv z1 z2).toArray) rfl (yi_build _ _ _ _ (build_pt (⟨⟨HlXv.out, HeXv.out⟩, ⟨HlYv.out, HeYv.out⟩, ⟨l1, e1⟩, ⟨l2, e2⟩⟩ : PtZ zXv zYv z1 z2 (⟨f, y, fp 1, f * y⟩ : ES))) (by rfl) rfl (by simp [Act.eval])) hW ?_
      simp only [nm]
      refine rdy 7 rfl fun K hK => ?_
      refine zbn (by rfl) ?_
      refine zak _ _ _ rfl (A + 1) (ptC zXv zYv z1 z2) rfl rfl _ _ (zad HR.out N2) (by rw [zca ((⟨⟨HlXv.out, HeXv.out⟩, ⟨HlYv.out, HeYv.out⟩, ⟨l1, e1⟩, ⟨l2, e2⟩⟩ : PtZ zXv zYv z1 z2 (⟨f, y, fp 1, f * y⟩ : ES))), zaa]; rfl) (zcl ((⟨⟨HlXv.out, HeXv.out⟩, ⟨HlYv.out, HeYv.out⟩, ⟨l1, e1⟩, ⟨l2, e2⟩⟩ : PtZ zXv zYv z1 z2 (⟨f, y, fp 1, f * y⟩ : ES)))) (zeo _ _ _ _) ?_
      intro m3 hb3 hg3
      refine hK.out _ _ (zcn N2 hg3) (fun hW => ?_)
      clear hK K
      try simp only [nm]
      refine rdy 8 rfl fun K hK => ?_
      go_simp
      refine hK.out _ _ (zcn N2 hg3) (fun hW => ?_)
      clear hK K
      try simp only [nm]
      refine dne ?_
      go_wp2_with fail
      refine bodyPost_ret (zai rfl _ (A + 1) _ _ _ rfl hb3 q132 rfl (zcl (⟨⟨HlXv.out, HeXv.out⟩, ⟨HlYv.out, HeYv.out⟩, ⟨l1, e1⟩, ⟨l2, e2⟩⟩ : PtZ zXv zYv z1 z2 (⟨f, y, fp 1, f * y⟩ : ES)))) rfl ?_
      have hri := read_is HNL.out (by rw [← HYE.out]; exact HPN.out) (f := f) (by rw [← HYE.out, ← HYF.out]; exact HSQ.out) HH0.out HXX.out
      rw [← HYE.out, ← HYF.out] at hri
      exact ⟨_, by rw [zef hri.1]; rfl, zca (⟨⟨HlXv.out, HeXv.out⟩, ⟨HlYv.out, HeYv.out⟩, ⟨l1, e1⟩, ⟨l2, e2⟩⟩ : PtZ zXv zYv z1 z2 (⟨f, y, fp 1, f * y⟩ : ES)), zeo _ _ _ _, fun P hP => ⟨(⟨f, y, fp 1, f * y⟩ : ES), ⟨_, _, _, _, rfl, (⟨⟨HlXv.out, HeXv.out⟩, ⟨HlYv.out, HeYv.out⟩, ⟨l1, e1⟩, ⟨l2, e2⟩⟩ : PtZ zXv zYv z1 z2 (⟨f, y, fp 1, f * y⟩ : ES))⟩, hri.2 P hP⟩, zab (HE.out.trans N2) hg3 (by have := HO.out; omega)⟩
     ·obtain ⟨c, hc⟩ : ∃ c, c = f.val % 2 := ⟨_, rfl⟩
      have hq : bits .and .u8 q0 1 = (c : Int) := by rw [hq1, hc]
      have hcb : ¬ (c : Int) = (b : Int) := by rw [hc]; omega
      have hcd : decide ((c : Int) = (b : Int)) = false := decide_eq_false hcb
      have HXX : Hid (0 - f = pickX f (bitN n)) := jh (by unfold pickX; rw [← HBE.out, if_neg hpar, f_neg])
      clear hq1 hpar hc
      go_upto_region 14 with (fail)
      clear hq c0 hcb hcd
      obtain ⟨zXv, lXv, bXv, eXv⟩ := EXv.out
      have HbXv := jh bXv
      have HeXv := jh eXv
      have HlXv := jh lXv
      have HiXv := jh (zau lXv)
      clear bXv eXv lXv
      go_wp2_with (refine slb TXv HbXv.out q103 HiXv.out ?_)
      refine (rsub_f wl7 el_zero HeXv.out).mono ?_
      rintro e wl8 ⟨r, rfl, hr, hb⟩
      obtain ⟨z, hz, lz⟩ := hr.form
      subst hz
      have EYv := jh (EYv.out.ext hb)
      have EYq := jh (EYq.out.ext hb)
      have EXv := jh (EXv.out.ext hb)
      have HM := xb HM hb
      have HR := xb HR hb
      have HWn := xb HWn hb
      have HE := xt HE hb
      clear hb
      obtain ⟨zXv, lXv, bXv, eXv⟩ := EXv.out
      have HbXv := jh bXv
      have HeXv := jh eXv
      have HlXv := jh lXv
      have HiXv := jh (zau lXv)
      clear bXv eXv lXv
      have HI := jh (zau lz)
      have HL : Hid ((ints .i64 z).length = (ints .i64 zXv).length) := jh (by rw [zaa, zaa, lz, HlXv.out])
      go_upto_region 15 with (refine ssb TXv (ints .i64 z) HbXv.out HL.out HI.out (zaj _ _) ?_; intro wl9 hbm hgm)
      have EYv := jh (EYv.out.grown hgm (by have := HO.out; simp; omega))
      have EYq := jh (EYq.out.grown hgm (by have := HO.out; simp; omega))
      have HM := jh (HM.out.grown hgm (by have := HO.out; simp; omega))
      have HR := jh (HR.out.grown hgm (by have := HO.out; simp; omega))
      have HWn := jh (HWn.out.grown hgm (by have := HO.out; simp; omega))
      have HE := jh (zab HE.out hgm (by have := HO.out; omega))
      have EXv : Hid (ElB wl9 TXv (0 - f)) := jh ⟨z, lz, hbm, hr⟩
      clear hbm hgm hr HI HL lz
      obtain ⟨zXv, lXv, bXv, eXv⟩ := EXv.out
      have HbXv := jh bXv
      have HeXv := jh eXv
      have HlXv := jh lXv
      have HiXv := jh (zau lXv)
      clear bXv eXv lXv
      obtain ⟨zYv, lYv, bYv, eYv⟩ := EYv.out
      have HbYv := jh bYv
      have HeYv := jh eYv
      have HlYv := jh lYv
      have HiYv := jh (zau lYv)
      clear bYv eYv lYv
      have B0 : Ext wl9 wl9.drew := Ext.drew _
      refine wp_region_held_drew (S := fun w' => Far (A + 1) wl9 w') (by kernel_rfl) (zbl B0) (fun hW => ?_)
      refine tke 0 (.agg (ints .i64 zXv).toArray) rfl (sld TXv 0 (fun w h => zba HbXv.out (by have := HO.out; omega) h) q103 HiXv.out) hW ?_
      simp only [nm]
      refine tke 1 (.agg (ints .i64 zYv).toArray) rfl (sld TYv 0 (fun w h => zba HbYv.out (by have := HO.out; omega) h) q103 HiYv.out) hW ?_
      simp only [nm]
      refine tke 3 (.agg (ints .i64 zXv).toArray) rfl (sld TXv 0 (fun w h => zba HbXv.out (by have := HO.out; omega) h) q103 HiXv.out) hW ?_
      simp only [nm]
      refine tke 4 (.agg (ints .i64 zYv).toArray) rfl (sld TYv 0 (fun w h => zba HbYv.out (by have := HO.out; omega) h) q103 HiYv.out) hW ?_
      simp only [nm]
      refine rdy 2 rfl fun K hK => ?_
      go_simp
      refine (rone_f 1 _ (by omega) (by omega)).mono ?_
      rintro e m1 ⟨v1, rfl, e1, b1⟩
      obtain ⟨z1, hz1, l1⟩ := e1.form
      subst hz1
      have N1 : Ext wl9 m1 := B0.trans b1
      refine hK.out _ _ (zbl N1) (fun hW => ?_)
      clear hK K
      try simp only [nm]
      refine rdy 5 rfl fun K hK => ?_
      go_simp
      refine (zfg _ HeXv.out HeYv.out).mono ?_
      rintro e m2 ⟨v2, rfl, e2, b2⟩
      obtain ⟨z2, hz2, l2⟩ := e2.form
      subst hz2
      have N2 : Ext wl9 m2 := N1.trans b2
      refine hK.out _ _ (zbl N2) (fun hW => ?_)
      clear hK K
      try simp only [nm]
      refine tke 6 (.agg (ptC zXv zYv z1 z2).toArray) rfl (yi_build _ _ _ _ (build_pt (⟨⟨HlXv.out, HeXv.out⟩, ⟨HlYv.out, HeYv.out⟩, ⟨l1, e1⟩, ⟨l2, e2⟩⟩ : PtZ zXv zYv z1 z2 (⟨(0 - f), y, fp 1, (0 - f) * y⟩ : ES))) (by rfl) rfl (by simp [Act.eval])) hW ?_
      simp only [nm]
      refine rdy 7 rfl fun K hK => ?_
      refine zbn (by rfl) ?_
      refine zak _ _ _ rfl (A + 1) (ptC zXv zYv z1 z2) rfl rfl _ _ (zad HR.out N2) (by rw [zca ((⟨⟨HlXv.out, HeXv.out⟩, ⟨HlYv.out, HeYv.out⟩, ⟨l1, e1⟩, ⟨l2, e2⟩⟩ : PtZ zXv zYv z1 z2 (⟨(0 - f), y, fp 1, (0 - f) * y⟩ : ES))), zaa]; rfl) (zcl ((⟨⟨HlXv.out, HeXv.out⟩, ⟨HlYv.out, HeYv.out⟩, ⟨l1, e1⟩, ⟨l2, e2⟩⟩ : PtZ zXv zYv z1 z2 (⟨(0 - f), y, fp 1, (0 - f) * y⟩ : ES)))) (zeo _ _ _ _) ?_
      intro m3 hb3 hg3
      refine hK.out _ _ (zcn N2 hg3) (fun hW => ?_)
      clear hK K
      try simp only [nm]
      refine rdy 8 rfl fun K hK => ?_
      go_simp
      refine hK.out _ _ (zcn N2 hg3) (fun hW => ?_)
      clear hK K
      try simp only [nm]
      refine dne ?_
      go_wp2_with fail
      refine bodyPost_ret (zai rfl _ (A + 1) _ _ _ rfl hb3 q132 rfl (zcl (⟨⟨HlXv.out, HeXv.out⟩, ⟨HlYv.out, HeYv.out⟩, ⟨l1, e1⟩, ⟨l2, e2⟩⟩ : PtZ zXv zYv z1 z2 (⟨(0 - f), y, fp 1, (0 - f) * y⟩ : ES)))) rfl ?_
      have hri := read_is HNL.out (by rw [← HYE.out]; exact HPN.out) (f := f) (by rw [← HYE.out, ← HYF.out]; exact HSQ.out) HH0.out HXX.out
      rw [← HYE.out, ← HYF.out] at hri
      exact ⟨_, by rw [zef hri.1]; rfl, zca (⟨⟨HlXv.out, HeXv.out⟩, ⟨HlYv.out, HeYv.out⟩, ⟨l1, e1⟩, ⟨l2, e2⟩⟩ : PtZ zXv zYv z1 z2 (⟨(0 - f), y, fp 1, (0 - f) * y⟩ : ES)), zeo _ _ _ _, fun P hP => ⟨(⟨(0 - f), y, fp 1, (0 - f) * y⟩ : ES), ⟨_, _, _, _, rfl, (⟨⟨HlXv.out, HeXv.out⟩, ⟨HlYv.out, HeYv.out⟩, ⟨l1, e1⟩, ⟨l2, e2⟩⟩ : PtZ zXv zYv z1 z2 (⟨(0 - f), y, fp 1, (0 - f) * y⟩ : ES))⟩, hri.2 P hP⟩, zab (HE.out.trans N2) hg3 (by have := HO.out; omega)⟩
 ·have hcn : ¬ nb ((leN yl : Nat) : Int) = yl := nbc_not (by omega)
  have B0 : Ext wb wb.drew := Ext.drew _
  refine wp_region_held_drew (S := fun w' => Ext wb w') (by kernel_rfl) B0 (fun hW => ?_)
  refine tke 0 (.agg ((yl).map bval).toArray) rfl (sld A 0 (fun w h => zah HM.out h) q100 HIY.out) hW ?_
  simp only [nm]
  refine tke 2 (.agg ((yl).map bval).toArray) rfl (sld A 0 (fun w h => zah HM.out h) q100 HIY.out) hW ?_
  simp only [nm]
  refine rdy 1 rfl fun K hK => ?_
  go_simp
  refine (rCanon_num yl _ HYL.out).mono ?_
  rintro e m1 ⟨rfl, b1⟩
  have N1 : Ext wb m1 := B0.trans b1
  refine hK.out _ _ N1 (fun hW => ?_)
  clear hK K
  try simp only [nm]
  refine tke 3 (.bool true) rfl (yi_neqB _ _ _ _ _ 32 _ (nb ((leN yl : Nat) : Int)) (yl) true (by rfl) rfl (decide_eq_false hcn) q100 q111 zch zby zcb rfl rfl (nbc_length _) (HYL.out)) hW ?_
  simp only [nm]
  refine dne ?_
  have hNN := jh (N1 : Ext wb m1)
  have HM := xb HM hNN.out
  have HR := xb HR hNN.out
  have HE := xt HE hNN.out
  clear hNN
  generalize m1 = wc at *
  have HPN : Hid (pN ≤ leN yl) := jh (by omega)
  clear hcn hp
  have HNO := jh (may_no_y HNL.out (by rw [← HYE.out]; exact HPN.out))
  go_wp2_with (refine ssb (A + 1) (ints .i64 (List.replicate 64 0)) HR.out rfl HIZ.out (zaj _ _) ?_; intro w9 hb9 hg9)
  refine bodyPost_ret (zai rfl _ (A + 1) _ _ _ rfl hb9 q132 rfl HIZ.out) rfl ?_
  exact ⟨_, by rw [zew HNO.out]; rfl, by rw [zaa]; rfl, zaj _ _, fun P hP => absurd ⟨P, hP⟩ HNO.out, zab HE.out hg9 (by have := HO.out; omega)⟩
