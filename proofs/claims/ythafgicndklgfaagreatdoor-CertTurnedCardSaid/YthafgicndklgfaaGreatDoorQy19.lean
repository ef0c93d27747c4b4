/- Lemmas. -/
import Derived.Test.YthafgicndklgfaaGreatDoorQy18
namespace Go.Proofs.YthafgicndklgfaaGreatDoor
set_option linter.unusedVariables false
set_option maxRecDepth 100000
set_option maxHeartbeats 32000000
set_option linter.unusedSimpArgs false
open Go.RowKit
theorem rsmall_b (n : Int) (r : Bool) (w : World) (hr : smallB n = r) : Calls Tryz.prog 30 #[.int .i64 n] w fun e w' => e = .returned (.bool r) ∧ Below w.heap.size w w' := by
 subst hr
 exact (rsmall_any n w).mono fun e w' h => ⟨h.1, h.2 ▸ Below.refl _ _⟩
theorem rCheckCert_any (pub key sig : List UInt8) (sid : Int) (w : World) (hp : pub.length = 32) (hk : key.length = 32) (hs : sig.length = 64) (hG : GV w) :
  Calls Tryz.prog 16 #[.agg (pub.map bval).toArray, .agg (certC sid key sig).toArray] w fun e w' => e = .returned (.bool (certV pub sid key sig)) ∧ Below w.heap.size w w' := by
 have HRL := jh hp
 have HKL := jh hk
 have HSL := jh hs
 have HIR := jh (zac hp)
 have HG := jh hG
 have HB := jh (boxes2 w (pub.map bval) (certC sid key sig) 23 28)
 clear hp hk hs hG
 go_enter Tryz.func16, Tryz.ntmps16
 go_upto_region 1 with (fail)
 obtain ⟨H1, H2, HE⟩ := HB.out
 change Code.wp _ _ _ _ ((w.alloc (.cells (pub.map bval).toArray 23)).alloc (.cells (certC sid key sig).toArray 28))
 generalize (w.alloc (.cells (pub.map bval).toArray 23)).alloc (.cells (certC sid key sig).toArray 28) = wa at *
 have HE : Hid (Ext w wa) := jh HE
 obtain ⟨B, hB⟩ : ∃ B, B = w.heap.size + 1 := ⟨_, rfl⟩
 rw [← hB] at H2 ⊢
 obtain ⟨A, hA⟩ : ∃ A, A = w.heap.size := ⟨_, rfl⟩
 rw [← hA] at H1 ⊢
 have H1 := jh H1
 obtain ⟨hp1, hp2, hp3⟩ := cert_parts H2 HKL.out
 have HP1 := jh hp1
 have HP2 := jh hp2
 have HP3 := jh hp3
 clear hA hB HB H2 hp1 hp2 hp3
 cases hsm : smallB sid with
 | false =>
  have HSB := jh hsm
  have HQ : Hid (certV pub sid key sig = false) := jh (by unfold certV; rw [hsm]; rfl)
  clear hsm
  have B0 : Ext wa wa.drew := Ext.drew _
  refine wp_region_held_drew (S := fun w' => Ext wa w') (by kernel_rfl) B0 (fun hW => ?_)
  refine tke 0 (.pointer (some ⟨B, 0, none⟩)) rfl (zbj (.pointer (some ⟨B, 0, none⟩)) (by rfl) (fun w _ => by go_simp)) hW ?_
  simp only [nm]
  refine tke 1 (.int .i64 sid) rfl (zbj (.int .i64 sid) (by rfl) (fun w h => by have hc := (Below.cell h (q138 wa _ HP1.out)).trans HP1.out; go_simp)) hW ?_
  simp only [nm]
  refine rdy 2 rfl fun K hK => ?_
  go_simp
  refine (rsmall_b sid false wa.drew HSB.out).mono ?_
  rintro e m1 ⟨rfl, b1⟩
  have N1 : Ext wa m1 := B0.trans b1
  refine hK.out _ _ N1 (fun hW => ?_)
  clear hK K
  try simp only [nm]
  refine tke 3 (.bool false) rfl (zbm _ (.bool false) (by rfl) rfl rfl) hW ?_
  simp only [nm]
  refine tke 4 undef rfl (zbt (by rfl)) hW ?_
  simp only [nm]
  refine tke 5 undef rfl (zbt (by rfl)) hW ?_
  simp only [nm]
  refine tke 6 undef rfl (zbt (by rfl)) hW ?_
  simp only [nm]
  refine tke 7 undef rfl (zbt (by rfl)) hW ?_
  simp only [nm]
  refine tke 8 undef rfl (zbt (by rfl)) hW ?_
  simp only [nm]
  refine tke 9 undef rfl (zbt (by rfl)) hW ?_
  simp only [nm]
  refine tke 10 undef rfl (zbt (by rfl)) hW ?_
  simp only [nm]
  refine tke 11 undef rfl (zbt (by rfl)) hW ?_
  simp only [nm]
  refine tke 12 undef rfl (zbt (by rfl)) hW ?_
  simp only [nm]
  refine tke 13 (.bool false) rfl (zct _ _ _ false _ (by rfl) rfl rfl rfl) hW ?_
  simp only [nm]
  refine rdy 14 rfl fun K hK => ?_
  go_simp
  refine hK.out _ _ N1 (fun hW => ?_)
  clear hK K
  try simp only [nm]
  refine dne ?_
  have HN := xt HE N1
  go_wp2_with fail
  go_ret
  exact ⟨by rw [HQ.out]; rfl, HN.out⟩
 | true =>
  have HSB := jh hsm
  obtain ⟨q, hq⟩ : ∃ q, q = verB pub sig (certT sid key) := ⟨_, rfl⟩
  have HQ : Hid (certV pub sid key sig = q) := jh (by unfold certV; rw [hsm, hq]; rfl)
  have HVF := jh (fun (x : Value) (wx : World) (hx : Ext wa wx) (hr : Row1 wx x ((certT sid key).map bval)) => by
   have hGw := HG.out.ext (HE.out.trans hx)
   have h := rverify_f pub sig (certT sid key) x wx HRL.out HSL.out hr (by rw [zez, HKL.out]; decide) hGw.1.1 hGw.1.2.1 hGw.1.2.2.1 hGw.2 hGw.1.2.2.2.1 hGw.1.2.2.2.2
   rw [← hq] at h
   exact h)
  clear hq hsm
  have B0 : Ext wa wa.drew := Ext.drew _
  refine wp_region_held_drew (S := fun w' => Ext wa w') (by kernel_rfl) B0 (fun hW => ?_)
  refine tke 0 (.pointer (some ⟨B, 0, none⟩)) rfl (zbj (.pointer (some ⟨B, 0, none⟩)) (by rfl) (fun w _ => by go_simp)) hW ?_
  simp only [nm]
  refine tke 1 (.int .i64 sid) rfl (zbj (.int .i64 sid) (by rfl) (fun w h => by have hc := (Below.cell h (q138 wa _ HP1.out)).trans HP1.out; go_simp)) hW ?_
  simp only [nm]
  refine rdy 2 rfl fun K hK => ?_
  go_simp
  refine (rsmall_b sid true wa.drew HSB.out).mono ?_
  rintro e m1 ⟨rfl, b1⟩
  have N1 : Ext wa m1 := B0.trans b1
  refine hK.out _ _ N1 (fun hW => ?_)
  clear hK K
  try simp only [nm]
  refine tke 3 (.bool true) rfl (zbm _ (.bool true) (by rfl) rfl rfl) hW ?_
  simp only [nm]
  refine tke 4 (.agg ((pub).map bval).toArray) rfl (sld A 0 (fun w h => zah H1.out h) q100 HIR.out) hW ?_
  simp only [nm]
  refine tke 5 (.pointer (some ⟨B, 33, none⟩)) rfl (zbj (.pointer (some ⟨B, 33, none⟩)) (by rfl) (fun w _ => by go_simp)) hW ?_
  simp only [nm]
  refine tke 6 (.agg ((sig).map bval).toArray) rfl (sld B 33 (fun w h => rng_ext HP3.out h) q119 (zcg HSL.out)) hW ?_
  simp only [nm]
  refine tke 7 (.pointer (some ⟨B, 0, none⟩)) rfl (zbj (.pointer (some ⟨B, 0, none⟩)) (by rfl) (fun w _ => by go_simp)) hW ?_
  simp only [nm]
  refine tke 8 (.int .i64 sid) rfl (zbj (.int .i64 sid) (by rfl) (fun w h => by have hc := (Below.cell h (q138 wa _ HP1.out)).trans HP1.out; go_simp)) hW ?_
  simp only [nm]
  refine tke 9 (.pointer (some ⟨B, 1, none⟩)) rfl (zbj (.pointer (some ⟨B, 1, none⟩)) (by rfl) (fun w _ => by go_simp)) hW ?_
  simp only [nm]
  refine tke 10 (.agg ((key).map bval).toArray) rfl (sld B 1 (fun w h => rng_ext HP2.out h) q100 (zac HKL.out)) hW ?_
  simp only [nm]
  refine rdy 11 rfl fun K hK => ?_
  go_simp
  refine (rcertText_any sid key m1 HKL.out).mono ?_
  rintro e m2 ⟨x2, rfl, r2, b2⟩
  have r2 : Row1 m2 x2 ((certT sid key).map bval) := r2
  obtain ⟨a2, c2, hx2, _⟩ := id r2
  rw [show ((certT sid key).map bval).length = 44 from by rw [q101, zez, HKL.out]] at hx2
  subst hx2
  have N2 : Ext wa m2 := N1.trans b2
  refine hK.out _ _ N2 (fun hW => ?_)
  clear hK K
  try simp only [nm]
  refine rdy 12 rfl fun K hK => ?_
  go_simp
  refine (HVF.out _ m2 N2 r2).mono ?_
  rintro e m3 ⟨rfl, b3⟩
  have r2 := r2.below b3
  have N3 : Ext wa m3 := N2.trans b3
  refine hK.out _ _ N3 (fun hW => ?_)
  clear hK K
  try simp only [nm]
  refine tke 13 (.bool q) rfl (zct _ _ _ true _ (by rfl) rfl rfl rfl) hW ?_
  simp only [nm]
  refine rdy 14 rfl fun K hK => ?_
  go_simp
  refine hK.out _ _ N3 (fun hW => ?_)
  clear hK K
  try simp only [nm]
  refine dne ?_
  have HN := xt HE N3
  go_wp2_with fail
  go_ret
  exact ⟨by rw [HQ.out]; rfl, HN.out⟩
theorem rCheckStop_any (pub sig : List UInt8) (sid : Int) (w : World) (hp : pub.length = 32) (hs : sig.length = 64) (hG : GV w) :
  Calls Tryz.prog 18 #[.agg (pub.map bval).toArray, .agg (stopC sid sig).toArray] w fun e w' => e = .returned (.bool (stopV pub sid sig)) ∧ Below w.heap.size w w' := by
 have HRL := jh hp
 have HSL := jh hs
 have HIR := jh (zac hp)
 have HG := jh hG
 have HB := jh (boxes2 w (pub.map bval) (stopC sid sig) 23 39)
 clear hp hs hG
 go_enter Tryz.func18, Tryz.ntmps18
 go_upto_region 1 with (fail)
 obtain ⟨H1, H2, HE⟩ := HB.out
 change Code.wp _ _ _ _ ((w.alloc (.cells (pub.map bval).toArray 23)).alloc (.cells (stopC sid sig).toArray 39))
 generalize (w.alloc (.cells (pub.map bval).toArray 23)).alloc (.cells (stopC sid sig).toArray 39) = wa at *
 have HE : Hid (Ext w wa) := jh HE
 obtain ⟨B, hB⟩ : ∃ B, B = w.heap.size + 1 := ⟨_, rfl⟩
 rw [← hB] at H2 ⊢
 obtain ⟨A, hA⟩ : ∃ A, A = w.heap.size := ⟨_, rfl⟩
 rw [← hA] at H1 ⊢
 have H1 := jh H1
 obtain ⟨hp1, hp2⟩ := stop_parts H2
 have HP1 := jh hp1
 have HP2 := jh hp2
 clear hA hB HB H2 hp1 hp2
 cases hsm : smallB sid with
 | false =>
  have HSB := jh hsm
  have HQ : Hid (stopV pub sid sig = false) := jh (by unfold stopV; rw [hsm]; rfl)
  clear hsm
  have B0 : Ext wa wa.drew := Ext.drew _
  refine wp_region_held_drew (S := fun w' => Ext wa w') (by kernel_rfl) B0 (fun hW => ?_)
  refine tke 0 (.pointer (some ⟨B, 0, none⟩)) rfl (zbj (.pointer (some ⟨B, 0, none⟩)) (by rfl) (fun w _ => by go_simp)) hW ?_
  simp only [nm]
  refine tke 1 (.int .i64 sid) rfl (zbj (.int .i64 sid) (by rfl) (fun w h => by have hc := (Below.cell h (q138 wa _ HP1.out)).trans HP1.out; go_simp)) hW ?_
  simp only [nm]
  refine rdy 2 rfl fun K hK => ?_
  go_simp
  refine (rsmall_b sid false wa.drew HSB.out).mono ?_
  rintro e m1 ⟨rfl, b1⟩
  have N1 : Ext wa m1 := B0.trans b1
  refine hK.out _ _ N1 (fun hW => ?_)
  clear hK K
  try simp only [nm]
  refine tke 3 (.bool false) rfl (zbm _ (.bool false) (by rfl) rfl rfl) hW ?_
  simp only [nm]
  refine tke 4 undef rfl (zbt (by rfl)) hW ?_
  simp only [nm]
  refine tke 5 undef rfl (zbt (by rfl)) hW ?_
  simp only [nm]
  refine tke 6 undef rfl (zbt (by rfl)) hW ?_
  simp only [nm]
  refine tke 7 undef rfl (zbt (by rfl)) hW ?_
  simp only [nm]
  refine tke 8 undef rfl (zbt (by rfl)) hW ?_
  simp only [nm]
  refine tke 9 undef rfl (zbt (by rfl)) hW ?_
  simp only [nm]
  refine tke 10 undef rfl (zbt (by rfl)) hW ?_
  simp only [nm]
  refine tke 11 (.bool false) rfl (zct _ _ _ false _ (by rfl) rfl rfl rfl) hW ?_
  simp only [nm]
  refine rdy 12 rfl fun K hK => ?_
  go_simp
  refine hK.out _ _ N1 (fun hW => ?_)
  clear hK K
  try simp only [nm]
  refine dne ?_
  have HN := xt HE N1
  go_wp2_with fail
  go_ret
  exact ⟨by rw [HQ.out]; rfl, HN.out⟩
 | true =>
  have HSB := jh hsm
  obtain ⟨q, hq⟩ : ∃ q, q = verB pub sig (stopT sid) := ⟨_, rfl⟩
  have HQ : Hid (stopV pub sid sig = q) := jh (by unfold stopV; rw [hsm, hq]; rfl)
  have HVF := jh (fun (x : Value) (wx : World) (hx : Ext wa wx) (hr : Row1 wx x ((stopT sid).map bval)) => by
   have hGw := HG.out.ext (HE.out.trans hx)
   have h := rverify_f pub sig (stopT sid) x wx HRL.out HSL.out hr (by rw [zev]; decide) hGw.1.1 hGw.1.2.1 hGw.1.2.2.1 hGw.2 hGw.1.2.2.2.1 hGw.1.2.2.2.2
   rw [← hq] at h
   exact h)
  clear hq hsm
  have B0 : Ext wa wa.drew := Ext.drew _
  refine wp_region_held_drew (S := fun w' => Ext wa w') (by kernel_rfl) B0 (fun hW => ?_)
  refine tke 0 (.pointer (some ⟨B, 0, none⟩)) rfl (zbj (.pointer (some ⟨B, 0, none⟩)) (by rfl) (fun w _ => by go_simp)) hW ?_
  simp only [nm]
  refine tke 1 (.int .i64 sid) rfl (zbj (.int .i64 sid) (by rfl) (fun w h => by have hc := (Below.cell h (q138 wa _ HP1.out)).trans HP1.out; go_simp)) hW ?_
  simp only [nm]
  refine rdy 2 rfl fun K hK => ?_
  go_simp
  refine (rsmall_b sid true wa.drew HSB.out).mono ?_
  rintro e m1 ⟨rfl, b1⟩
  have N1 : Ext wa m1 := B0.trans b1
  refine hK.out _ _ N1 (fun hW => ?_)
  clear hK K
  try simp only [nm]
  refine tke 3 (.bool true) rfl (zbm _ (.bool true) (by rfl) rfl rfl) hW ?_
  simp only [nm]
  refine tke 4 (.agg ((pub).map bval).toArray) rfl (sld A 0 (fun w h => zah H1.out h) q100 HIR.out) hW ?_
  simp only [nm]
  refine tke 5 (.pointer (some ⟨B, 1, none⟩)) rfl (zbj (.pointer (some ⟨B, 1, none⟩)) (by rfl) (fun w _ => by go_simp)) hW ?_
  simp only [nm]
  refine tke 6 (.agg ((sig).map bval).toArray) rfl (sld B 1 (fun w h => rng_ext HP2.out h) q119 (zcg HSL.out)) hW ?_
  simp only [nm]
  refine tke 7 (.pointer (some ⟨B, 0, none⟩)) rfl (zbj (.pointer (some ⟨B, 0, none⟩)) (by rfl) (fun w _ => by go_simp)) hW ?_
  simp only [nm]
  refine tke 8 (.int .i64 sid) rfl (zbj (.int .i64 sid) (by rfl) (fun w h => by have hc := (Below.cell h (q138 wa _ HP1.out)).trans HP1.out; go_simp)) hW ?_
  simp only [nm]
  refine rdy 9 rfl fun K hK => ?_
  go_simp
  refine (rstopText_any sid m1).mono ?_
  rintro e m2 ⟨x2, rfl, o2, b2⟩
  have r2 : Row1 m2 x2 ((stopT sid).map bval) := Row1.of_own o2
  have N2 : Ext wa m2 := N1.trans b2
  refine hK.out _ _ N2 (fun hW => ?_)
  clear hK K
  try simp only [nm]
  refine rdy 10 rfl fun K hK => ?_
  go_simp
  refine (HVF.out _ m2 N2 r2).mono ?_
  rintro e m3 ⟨rfl, b3⟩
  have r2 := r2.below b3
  have N3 : Ext wa m3 := N2.trans b3
  refine hK.out _ _ N3 (fun hW => ?_)
  clear hK K
  try simp only [nm]
  refine tke 11 (.bool q) rfl (zct _ _ _ true _ (by rfl) rfl rfl rfl) hW ?_
  simp only [nm]
  refine rdy 12 rfl fun K hK => ?_
  go_simp
  refine hK.out _ _ N3 (fun hW => ?_)
  clear hK K
  try simp only [nm]
  refine dne ?_
  have HN := xt HE N3
  go_wp2_with fail
  go_ret
  exact ⟨by rw [HQ.out]; rfl, HN.out⟩
