/- Lemmas. -/
import Derived.Test.YthafgicndklgfaaGreatDoorQy12
import Derived.Test.YthafgicndklgfaaGreatDoorQy15
import Derived.Test.YthafgicndklgfaaGreatDoorQy21
namespace Go.Proofs.YthafgicndklgfaaGreatDoor
set_option linter.unusedVariables false
set_option maxRecDepth 100000
set_option maxHeartbeats 32000000
set_option linter.unusedSimpArgs false
open Go.RowKit
theorem rmay_f (n : List UInt8) (w : World) (hn : n.length = 32) (hD : GlobD w) (hG : Glob w) : Calls Tryz.prog 25 #[.agg (n.map bval).toArray] w fun e w' => e = .returned (.bool (mayB n)) ∧ Below w.heap.size w w' := by
 have HNL := jh hn
 have HGD := jh hD
 have HGR := jh hG
 have HB := jh (zfo w (n.map bval) 23)
 clear hn hD hG
 go_enter Tryz.func25, Tryz.ntmps25
 go_upto_region 1 with (fail)
 obtain ⟨H1, HE⟩ := HB.out
 change Code.wp _ _ _ _ (w.alloc (.cells (n.map bval).toArray 23))
 generalize w.alloc (.cells (n.map bval).toArray 23) = wa at *
 obtain ⟨A, hA⟩ : ∃ A, A = w.heap.size := ⟨_, rfl⟩
 rw [← hA] at H1 ⊢
 have HN := jh H1
 have HE : Hid (Ext w wa) := jh HE
 clear hA HB H1
 go_wp2_with (refine slb A HN.out q100 (zac HNL.out) ?_)
 refine (rread_f n wa HNL.out (HGD.out.ext HE.out) (HGR.out.ext HE.out)).mono ?_
 rintro e wb ⟨cs, rfl, hl, ho, hP, hb⟩
 have HE := xt HE hb
 have HCL := jh hl
 have HCO := jh ho
 obtain ⟨mb, hmb⟩ : ∃ z, z = mayB n := ⟨_, rfl⟩
 rw [← hmb]
 have HMB := jh hmb
 clear hl ho hP hb HN hmb
 have HZ := jh (Blk.made wb (ints .i64 (List.replicate 64 0)) 70)
 have HEA := jh (Ext.alloc wb (.cells (ints .i64 (List.replicate 64 0)).toArray 70))
 have HL : Hid (cs.length = (ints .i64 (List.replicate 64 0)).length) := jh (by rw [HCL.out, zaa]; rfl)
 have HI : Hid ((Tryz.prog.info? 70).map (·.size) = some cs.length) := jh (by rw [HCL.out]; kernel_rfl)
 go_upto_region 2 with (refine ssb wb.heap.size cs HZ.out HL.out HI.out HCO.out ?_; intro wc hb2 hg2)
 have HX := jh (zab HEA.out hg2 (q102 _))
 have HE := xt HE HX.out
 clear hb2 hg2 HZ HEA HX
 go_wp2_with fail
 go_ret
 exact ⟨by rw [HMB.out]; rfl, HE.out⟩
theorem rSignCert_any (root key : List UInt8) (sid : Int) (w : World) (hr : root.length = 32) (hk : key.length = 32) (hG : GV w) :
  Calls Tryz.prog 12 #[.agg (root.map bval).toArray, .int .i64 sid, .agg (key.map bval).toArray] w fun e w' => e = .returned (.tuple #[.agg (certC (sgnI sid key) (sgnK sid key) (sgnG root sid key)).toArray, .int .i64 (sgnE sid key)]) ∧ Below w.heap.size w w' := by
 have HRL := jh hr
 have HKL := jh hk
 have HIR := jh (zac hr)
 have HIK := jh (zac hk)
 have HG := jh hG
 have HB := jh (boxes3 w (root.map bval) (key.map bval) (certC 0 z32 z64) 23 23 28)
 have HZC := jh (zbz (id := 0) zde zbv)
 have HZS := jh (zdv (id := 0) zde zbv)
 clear hr hk hG
 go_enter Tryz.func12, Tryz.ntmps12
 go_upto_region 1 with (fail)
 obtain ⟨H1, H2, H3, HE⟩ := HB.out
 change Code.wp _ _ _ _ (((w.alloc (.cells (root.map bval).toArray 23)).alloc (.cells (key.map bval).toArray 23)).alloc (.cells (certC 0 z32 z64).toArray 28))
 generalize ((w.alloc (.cells (root.map bval).toArray 23)).alloc (.cells (key.map bval).toArray 23)).alloc (.cells (certC 0 z32 z64).toArray 28) = wa at *
 have HE : Hid (Ext w wa) := jh HE
 obtain ⟨C, hC⟩ : ∃ C, C = w.heap.size + 1 + 1 := ⟨_, rfl⟩
 have HLC : Hid (w.heap.size ≤ C) := jh (by omega)
 rw [← hC] at H3 ⊢
 obtain ⟨B, hB⟩ : ∃ B, B = w.heap.size + 1 := ⟨_, rfl⟩
 rw [← hB] at H2 ⊢
 obtain ⟨A, hA⟩ : ∃ A, A = w.heap.size := ⟨_, rfl⟩
 have HO : Hid (A < B ∧ B < C) := jh (by omega)
 rw [← hA] at H1 ⊢
 have H1 := jh H1
 have H2 := jh H2
 have HC0 := jh H3
 clear hA hB hC HB H3
 go_wp2_with fail
 refine (rsmall_any sid wa).mono ?_
 rintro e w' ⟨rfl, rfl⟩
 cases hsm : smallB sid with
 | false =>
  have HQ := jh (sgn_arg (key := key) hsm root)
  clear hsm
  go_wp2_with (first | (refine zbf rfl _ _ rfl _ rfl _ (build_cert0 _) ?_) | (refine ssb C (certC 0 z32 z64) HC0.out rfl HZS.out (zek _ _ _) ?_; intro w9 hb9 hg9))
  refine bodyPost_ret (zai rfl _ C _ _ _ rfl hb9 q131 rfl HZS.out) rfl ?_
  exact ⟨by rw [HQ.out.1, HQ.out.2.1, HQ.out.2.2.1, HQ.out.2.2.2]; rfl, zab HE.out hg9 HLC.out⟩
 | true =>
  have HSB := jh hsm
  clear hsm
  have HMY := jh (rmay_f key wa HKL.out (HG.out.1.2.2.1.ext HE.out) (HG.out.2.ext HE.out))
  have HMQ : Hid (mayB key = mayB key) := jh rfl
  obtain ⟨my, hmy⟩ : ∃ my, my = mayB key := ⟨_, rfl⟩
  rw [← hmy] at HMY
  have HMB := jh hmy
  clear hmy HMQ
  go_wp2_with (refine slb B H2.out q100 HIK.out ?_)
  refine HMY.out.mono ?_
  rintro e w3 ⟨rfl, hb⟩
  have H1 := xb H1 hb
  have H2 := xb H2 hb
  have HC0 := xb HC0 hb
  have HE := xt HE hb
  clear hb HMY
  cases my with
  | false =>
   have HQ := jh (sgn_key (key := key) HSB.out HMB.out.symm root)
   go_wp2_with (first | (refine zbf rfl _ _ rfl _ rfl _ (build_cert0 _) ?_) | (refine ssb C (certC 0 z32 z64) HC0.out rfl HZS.out (zek _ _ _) ?_; intro w9 hb9 hg9))
   refine bodyPost_ret (zai rfl _ C _ _ _ rfl hb9 q131 rfl HZS.out) rfl ?_
   exact ⟨by rw [HQ.out.1, HQ.out.2.1, HQ.out.2.2.1, HQ.out.2.2.2]; rfl, zab HE.out hg9 HLC.out⟩
  | true =>
   have HQ := jh (sgn_yes HSB.out HMB.out.symm root)
   obtain ⟨g, hg⟩ : ∃ g, g = edSign root (certT sid key) := ⟨_, rfl⟩
   have HGE : Hid (certG root sid key = g) := jh hg.symm
   have HGL : Hid (g.length = 64) := jh (by rw [hg]; exact zdn _ _)
   have HSG := jh (fun (x : Value) (wx : World) (hx : Ext w3 wx) (hr : Row1 wx x ((certT sid key).map bval)) => by
    have hGw := HG.out.1.ext (HE.out.trans hx)
    have h := rsign_f root (certT sid key) x wx HRL.out hr (by rw [zez, HKL.out]; decide) hGw.1 hGw.2.1 hGw.2.2.1 hGw.2.2.2.1 hGw.2.2.2.2
    rw [← hg] at h
    exact h)
   clear hg
   go_upto_region 6 with (fail)
   have B0 : Ext w3 w3.drew := Ext.drew _
   refine wp_region_held_drew (S := fun w' => Far (C) w3 w') (by kernel_rfl) (zbl B0) (fun hW => ?_)
   refine tke 0 (.int .i64 sid) rfl (zbm _ (.int .i64 sid) (by rfl) rfl rfl) hW ?_
   simp only [nm]
   refine tke 1 (.agg ((key).map bval).toArray) rfl (sld B 0 (fun w h => zba H2.out (by have := HO.out; omega) h) q100 HIK.out) hW ?_
   simp only [nm]
   refine tke 2 (.agg ((root).map bval).toArray) rfl (sld A 0 (fun w h => zba H1.out (by have := HO.out; omega) h) q100 HIR.out) hW ?_
   simp only [nm]
   refine tke 3 (.int .i64 sid) rfl (zbm _ (.int .i64 sid) (by rfl) rfl rfl) hW ?_
   simp only [nm]
   refine tke 4 (.agg ((key).map bval).toArray) rfl (sld B 0 (fun w h => zba H2.out (by have := HO.out; omega) h) q100 HIK.out) hW ?_
   simp only [nm]
   refine rdy 5 rfl fun K hK => ?_
   go_simp
   refine (rcertText_any sid key w3.drew HKL.out).mono ?_
   rintro e m1 ⟨x1, rfl, r1, b1⟩
   have r1 : Row1 m1 x1 ((certT sid key).map bval) := r1
   obtain ⟨a1, c1, hx1, _⟩ := id r1
   rw [show ((certT sid key).map bval).length = 44 from by rw [q101, zez, HKL.out]] at hx1
   subst hx1
   have N1 : Ext w3 m1 := B0.trans b1
   refine hK.out _ _ (zbl N1) (fun hW => ?_)
   clear hK K
   try simp only [nm]
   refine rdy 6 rfl fun K hK => ?_
   go_simp
   refine (HSG.out _ m1 N1 r1).mono ?_
   rintro e m2 ⟨rfl, b2⟩
   have r1 := r1.below b2
   have N2 : Ext w3 m2 := N1.trans b2
   refine hK.out _ _ (zbl N2) (fun hW => ?_)
   clear hK K
   try simp only [nm]
   refine tke 7 (.agg (certC sid key g).toArray) rfl (yi_build _ _ _ _ (build_cert sid HKL.out HGL.out) (by rfl) rfl (by simp [Act.eval])) hW ?_
   simp only [nm]
   refine rdy 8 rfl fun K hK => ?_
   refine zbn (by rfl) ?_
   refine zak _ _ _ rfl C (certC sid key g) rfl rfl _ _ (zad HC0.out N2) (by rw [zbz HKL.out HGL.out, zbz zde zbv]) (zdv HKL.out HGL.out) (zek _ _ _) ?_
   intro m3 hb3 hg3
   refine hK.out _ _ (zcn N2 hg3) (fun hW => ?_)
   clear hK K
   try simp only [nm]
   refine rdy 9 rfl fun K hK => ?_
   go_simp
   refine hK.out _ _ (zcn N2 hg3) (fun hW => ?_)
   clear hK K
   try simp only [nm]
   refine dne ?_
   have hfin := hb3
   have hNN := zab (HE.out.trans N2) hg3 HLC.out
   generalize m3 = w11 at hfin hNN ⊢
   go_wp2_with fail
   refine bodyPost_ret (zai rfl _ C _ _ _ rfl hfin q131 rfl (zdv HKL.out HGL.out)) rfl ?_
   exact ⟨by rw [HQ.out.1, HQ.out.2.1, HQ.out.2.2.1, HQ.out.2.2.2, HGE.out]; rfl, hNN⟩
