/- Texts that belong together, one behind the other. -/
import Derived.Test.YtimmnieopifcbaaGreatDoorQz10
namespace Go.Proofs.YtimmnieopifcbaaGreatDoor
set_option linter.unusedVariables false
set_option maxRecDepth 100000
set_option maxHeartbeats 32000000
set_option linter.unusedSimpArgs false
open Go.RowKit
theorem rSeal_any (kb nb p s : List UInt8) (pv sv : Value) (w : World) (hk : kb.length = 32) (hn : nb.length = 12) (hp : Row1 w pv (p.map bval)) (hs : Row1 w sv (s.map bval)) (hpl : p.length ≤ 1000000000) (hsl : s.length ≤ 1000000000) :
  Calls Tryz.prog 19 #[.agg (kb.map bval).toArray, .agg (nb.map bval).toArray, pv, sv] w fun e w' => ∃ x, e = .returned x ∧ w'.ownsRow w.heap.size 5 1 x (p.length + 16) ((sealB kb nb p s).map bval) ∧ Below w.heap.size w w' := by
 obtain ⟨i0, hi, hz0, hz1, hz2⟩ := info_parts Tryz.info5
 have HI0 := jh hi
 have HZ0 := jh hz0
 have HZ1 := jh hz1
 have HZ2 := jh hz2
 have HP0 := jh hp
 have HS0 := jh hs
 have HPL := jh hpl
 have HSL := jh hsl
 have HB := jh (boxes2 w (kb.map bval) (nb.map bval) 23 44)
 have HIK : Hid ((Tryz.prog.info? 23).map (·.size) = some (kb.map bval).length) := jh (zaf hk)
 have HIN : Hid ((Tryz.prog.info? 44).map (·.size) = some (nb.map bval).length) := jh (zdj hn)
 have HKL := jh hk
 have HNL := jh hn
 clear hi hz0 hz1 hz2 hp hs hk hn hpl hsl
 go_enter Tryz.func19, Tryz.ntmps19
 go_upto_region 1 with (fail)
 obtain ⟨H1, H2, HE⟩ := HB.out
 change Code.wp _ _ _ _ ((w.alloc (.cells (kb.map bval).toArray 23)).alloc (.cells (nb.map bval).toArray 44))
 generalize (w.alloc (.cells (kb.map bval).toArray 23)).alloc (.cells (nb.map bval).toArray 44) = wa at *
 obtain ⟨A, hA⟩ : ∃ A, A = w.heap.size := ⟨_, rfl⟩
 have HAW : Hid (w.heap.size ≤ A) := jh (by omega)
 rw [← hA] at H1 H2 ⊢
 have H1 := jh H1
 have H2 := jh H2
 have HE : Hid (Ext w wa) := jh HE
 clear hA HB
 go_wp2_with (first | (refine zab rfl _ _ rfl A rfl _ _ _ _ H1.out Tryz.underlying23 HIK.out ?_) | (refine zab rfl _ _ rfl (A + 1) rfl _ _ _ _ H2.out Tryz.underlying44 HIN.out ?_))
 refine (rTurn_any kb nb p _ 1 wa HKL.out HNL.out (HP0.out.below HE.out) (by have := HPL.out; omega) (by decide) (by decide)).mono ?_
 rintro e w1 ⟨x1, rfl, ho1, hb1⟩
 have HO1 : Hid (w1.ownsRow w.heap.size 5 1 x1 p.length ((chaTurn kb 1 nb p).map bval)) := jh (own_mono ho1 HE.out.size)
 have H1 := jh (zaa H1.out hb1)
 have H2 := jh (zaa H2.out hb1)
 have HE := jh (HE.out.trans hb1)
 clear ho1 hb1
 have HCL := jh (zbd kb 1 nb p)
 have HSB : Hid (sealB kb nb p s = chaTurn kb 1 nb p ++ aeaTag kb nb (chaTurn kb 1 nb p) s) := jh rfl
 generalize chaTurn kb 1 nb p = c at *
 go_wp2_with (first | (refine zab rfl _ _ rfl A rfl _ _ _ _ H1.out Tryz.underlying23 HIK.out ?_) | (refine zab rfl _ _ rfl (A + 1) rfl _ _ _ _ H2.out Tryz.underlying44 HIN.out ?_))
 refine (rTag_any kb nb c s _ _ w1 HKL.out HNL.out (Row1.of_own HO1.out) (HS0.out.below HE.out) (by rw [HCL.out]; exact HPL.out) HSL.out).mono ?_
 rintro e w2 ⟨rfl, hb⟩
 have HE := jh (HE.out.trans hb)
 have HO2 := jh (zbz HO1.out hb)
 clear hb HO1 H1 H2
 have HTL := jh (zeo kb nb c s)
 generalize aeaTag kb nb c s = tg at *
 have HZ := jh (Blk.made w2 (ints .u8 (List.replicate 16 0)) 53)
 have HEA := jh (Ext.alloc w2 (.cells (ints .u8 (List.replicate 16 0)).toArray 53))
 have HIT : Hid ((Tryz.prog.info? 53).map (·.size) = some (tg.map bval).length) := jh (tag_size HTL.out)
 have HLo : Hid ((tg.map bval).length = (ints .u8 (List.replicate 16 0)).length) := jh (by rw [List.length_map, HTL.out, zad, List.length_replicate])
 go_upto_region 3 with (refine zac rfl _ _ _ rfl w2.heap.size (tg.map bval) rfl rfl _ _ HZ.out HLo.out HIT.out (zag _) ?_; intro w3 hb3 hg3)
 have HE4 := jh (zae HEA.out hg3 (Nat.le_refl _))
 have HO3 := jh (zbz HO2.out HE4.out)
 have HE := jh (HE.out.trans HE4.out)
 obtain ⟨T, hT⟩ : ∃ T, T = w2.heap.size := ⟨_, rfl⟩
 rw [← hT] at hb3 ⊢
 have HTR := jh (zbo (n := 16) hb3 (by rw [List.length_map, HTL.out]) (by unfold maxLen; omega))
 clear hb3 hg3 HZ HEA HE4 HLo hT HO2
 have HF : Hid (p.length + (tg.map bval).length ≤ 1000000100) := jh (by rw [List.length_map, HTL.out]; have := HPL.out; omega)
 go_wp2_with (at_builtin; refine zas rfl _ _ 25 rfl w.heap.size 5 i0 (.int .u8 0) 1 Tryz.underlying25 HI0.out HZ0.out HZ1.out HZ2.out rfl _ _ _ rfl HO3.out rfl HTR.out (zag _) (by have := HF.out; unfold maxLen; omega) (by have := HF.out; omega) HE.out.size ?_; intro v4 w4 hown4 hgrow4)
 have HE4 := jh (zck HE.out HO3.out (Nat.le_refl _) hgrow4)
 have HO4 : Hid (w4.ownsRow w.heap.size 5 1 v4 (p.length + 16) ((sealB kb nb p s).map bval)) := jh (own_eq hown4 (by rw [List.length_map, HTL.out]) (by rw [HSB.out, List.map_append]))
 clear hown4 hgrow4
 go_ret
 exact ⟨_, rfl, HO4.out, HE4.out⟩
theorem rWrap_any (tb draw key : List UInt8) (w : World) (ht : tb.length = 32) (hd : draw.length = 32) (hk : key.length = 32) (hG : GlobK w) :
  Calls Tryz.prog 8 #[.agg (tb.map bval).toArray, .agg (draw.map bval).toArray, .agg (key.map bval).toArray] w fun e w' => ∃ x, e = .returned (.tuple #[x, .int .i64 (shErr draw tb)]) ∧ Row1 w' x ((wraL tb draw key).map bval) ∧ Below w.heap.size w w' := by
 obtain ⟨i0, hi, hz0, hz1, hz2⟩ := info_parts Tryz.info5
 have HI0 := jh hi
 have HZ0 := jh hz0
 have HZ1 := jh hz1
 have HZ2 := jh hz2
 have HB := jh (boxes3 w (tb.map bval) (draw.map bval) (key.map bval) 23 23 23)
 have HG := jh hG
 have HTL := jh ht
 have HDL := jh hd
 have HKL := jh hk
 have HIT := jh (zaf ht)
 have HID := jh (zaf hd)
 have HIK := jh (zaf hk)
 clear ht hd hk hG hi hz0 hz1 hz2
 go_enter Tryz.func8, Tryz.ntmps8
 go_upto_region 1 with (fail)
 obtain ⟨H1, H2, H3, HE⟩ := HB.out
 change Code.wp _ _ _ _ (((w.alloc (.cells (tb.map bval).toArray 23)).alloc (.cells (draw.map bval).toArray 23)).alloc (.cells (key.map bval).toArray 23))
 generalize ((w.alloc (.cells (tb.map bval).toArray 23)).alloc (.cells (draw.map bval).toArray 23)).alloc (.cells (key.map bval).toArray 23) = wa at *
 obtain ⟨A, hA⟩ : ∃ A, A = w.heap.size := ⟨_, rfl⟩
 have HLA : Hid (w.heap.size ≤ A) := jh (by omega)
 rw [← hA] at H1 H2 H3 ⊢
 have H1 := jh H1
 have H2 := jh H2
 have H3 := jh H3
 have HE : Hid (Ext w wa) := jh HE
 clear hA HB
 have HWL : Hid (wraL tb draw key = if ladB draw tb = zer then [] else pubB draw ++ sealB (betK (pubB draw) (ladB draw tb)) (zB 12) key tb) := jh rfl
 have HP := jh (rladpub_any draw wa HDL.out)
 have HeL : Hid ((pubB draw).length = 32) := jh (zcj _)
 obtain ⟨e, he⟩ : ∃ e, e = pubB draw := ⟨_, rfl⟩
 rw [← he] at HP HeL HWL
 clear he
 have HIe := jh (zaf HeL.out)
 have HLe : Hid ((e.map bval).length = (ints .u8 (List.replicate 32 0)).length) := jh (by rw [List.length_map, zad, HeL.out]; rfl)
 go_wp2_with (first | (refine zab rfl _ _ rfl (A + 1) rfl _ _ _ _ H2.out Tryz.underlying23 HID.out ?_))
 refine HP.out.mono ?_
 rintro ex w3 ⟨rfl, hb⟩
 have H1 := jh (zaa H1.out hb)
 have H2 := jh (zaa H2.out hb)
 have H3 := jh (zaa H3.out hb)
 have HE := jh (HE.out.trans hb)
 clear hb HP
 have HZ := jh (Blk.made w3 (ints .u8 (List.replicate 32 0)) 23)
 have HEA := jh (Ext.alloc w3 (.cells (ints .u8 (List.replicate 32 0)).toArray 23))
 go_upto_region 2 with (refine zac rfl _ _ _ rfl w3.heap.size (e.map bval) rfl rfl _ _ HZ.out HLe.out HIe.out (zag _) ?_; intro w7 hb4 hg4)
 have HX := jh (zae HEA.out hg4 (Nat.le_refl _))
 have H1 := jh (zaa H1.out HX.out)
 have H2 := jh (zaa H2.out HX.out)
 have H3 := jh (zaa H3.out HX.out)
 have HE := jh (HE.out.trans HX.out)
 have HEB := jh hb4
 generalize w3.heap.size = E at *
 clear hb4 hg4 HZ HEA HX
 have HC := jh (rshared_any draw tb w7 HDL.out HTL.out)
 have HZL : Hid ((ladB draw tb).length = 32) := jh (zct _ _)
 have HER : Hid (shErr draw tb = if ladB draw tb = zer then 21 else 0) := jh rfl
 obtain ⟨z, hz⟩ : ∃ z, z = ladB draw tb := ⟨_, rfl⟩
 rw [← hz] at HC HZL HWL HER
 have HzL := HZL
 obtain ⟨er, her⟩ : ∃ er, er = shErr draw tb := ⟨_, rfl⟩
 rw [← her] at HC HER
 have HERQ := jh her
 have HIz := jh (zaf HzL.out)
 have HLz : Hid ((z.map bval).length = (ints .u8 (List.replicate 32 0)).length) := jh (by rw [List.length_map, zad, HzL.out]; rfl)
 clear hz her HZL
 go_wp2_with (first | (refine zab rfl _ _ rfl (A) rfl _ _ _ _ H1.out Tryz.underlying23 HIT.out ?_) | (refine zab rfl _ _ rfl (A + 1) rfl _ _ _ _ H2.out Tryz.underlying23 HID.out ?_))
 refine HC.out.mono ?_
 rintro ex w1 ⟨rfl, hb⟩
 have H1 := jh (zaa H1.out hb)
 have H3 := jh (zaa H3.out hb)
 have HEB := jh (zaa HEB.out hb)
 have HE := jh (HE.out.trans hb)
 clear hb HC H2
 have HZ := jh (Blk.made w1 (ints .u8 (List.replicate 32 0)) 23)
 have HEA := jh (Ext.alloc w1 (.cells (ints .u8 (List.replicate 32 0)).toArray 23))
 go_upto_region 3 with (refine zac rfl _ _ _ rfl w1.heap.size (z.map bval) rfl rfl _ _ HZ.out HLz.out HIz.out (zag _) ?_; intro w4 hb2 hg2)
 have HX := jh (zae HEA.out hg2 (Nat.le_refl _))
 have H1 := jh (zaa H1.out HX.out)
 have H3 := jh (zaa H3.out HX.out)
 have HEB := jh (zaa HEB.out HX.out)
 have HE := jh (HE.out.trans HX.out)
 have HZB := jh hb2
 generalize w1.heap.size = Z at *
 clear hb2 hg2 HZ HEA HX
 by_cases hz : z = zer
 ·have HRE : Hid (er = 21) := jh (by rw [HER.out, if_pos hz])
  have HRL : Hid (wraL tb draw key = []) := jh (by rw [HWL.out, if_pos hz])
  clear hz HER HWL
  rw [HRE.out]
  go_wp2_with fail
  refine bodyPost_ret (res_two rfl _ _) rfl ?_
  exact ⟨_, by rw [← HERQ.out, HRE.out]; rfl, by rw [HRL.out]; exact Row1.nil _, HE.out⟩
 ·have HRE : Hid (er = 0) := jh (by rw [HER.out, if_neg hz])
  have HRL : Hid (wraL tb draw key = e ++ sealB (betK e z) (zB 12) key tb) := jh (by rw [HWL.out, if_neg hz])
  clear hz HER HWL
  rw [HRE.out]
  go_upto_region 5 with (fail)
  have B0 : Ext w4 w4.drew := Ext.drew _
  refine wp_region_held_drew (S := fun w' => Ext w4 w') (by kernel_rfl) B0 (fun hHeld => ?_)
  refine tke 0 (.slice (some ⟨E, 0, none⟩) 32 32) rfl (zbm _ _ _ _ (.pointer (some ⟨E, 0, none⟩)) (.slice (some ⟨E, 0, none⟩) 32 32) none none (by rfl) rfl rfl rfl rfl (fun w => zbw Tryz.underlying23 Tryz.sizeOf5 (by omega) _ w)) hHeld ?_
  simp only [Act.put, nrm]
  refine tke 2 (.agg ((e).map bval).toArray) rfl (yieldsIf_load_mid (by rfl) _ _ rfl E 0 rfl _ _ (fun w h => zbl HEB.out h) Tryz.underlying23 rfl HIe.out) hHeld ?_
  simp only [Act.put, nrm]
  refine tke 3 (.agg ((z).map bval).toArray) rfl (yieldsIf_load_mid (by rfl) _ _ rfl Z 0 rfl _ _ (fun w h => zbl HZB.out h) Tryz.underlying23 rfl HIz.out) hHeld ?_
  simp only [Act.put, nrm]
  refine tke 5 (.agg ((zB 12).map bval).toArray) rfl (yi_build _ _ _ _ rwra_nonce (by rfl) rfl (by simp)) hHeld ?_
  simp only [Act.put, nrm]
  refine tke 6 (.slice (some ⟨A + 1 + 1, 0, none⟩) 32 32) rfl (zbm _ _ _ _ (.pointer (some ⟨A + 1 + 1, 0, none⟩)) (.slice (some ⟨A + 1 + 1, 0, none⟩) 32 32) none none (by rfl) rfl rfl rfl rfl (fun w => zbw Tryz.underlying23 Tryz.sizeOf5 (by omega) _ w)) hHeld ?_
  simp only [Act.put, nrm]
  refine tke 7 (.slice (some ⟨A, 0, none⟩) 32 32) rfl (zbm _ _ _ _ (.pointer (some ⟨A, 0, none⟩)) (.slice (some ⟨A, 0, none⟩) 32 32) none none (by rfl) rfl rfl rfl rfl (fun w => zbw Tryz.underlying23 Tryz.sizeOf5 (by omega) _ w)) hHeld ?_
  simp only [Act.put, nrm]
  refine rdy 1 rfl fun K hK => ?_
  refine zaw (by rfl) ?_
  refine zdn _ _ 25 rfl (w4.drew).heap.size 5 i0 (.int .u8 0) 1 Tryz.underlying25 HI0.out HZ0.out HZ1.out HZ2.out rfl (.slice none 0 0) 0 [] rfl (World.ownsRow_nil _ _ _ _) rfl ((zbo (n := 32) HEB.out (by rw [List.length_map]; exact HeL.out) (by unfold maxLen; omega)).below B0) (zag _) (by rw [List.length_map, HeL.out]; unfold maxLen; omega) (by rw [List.length_map, HeL.out]; omega) (Nat.le_refl _) ?_
  intro v1 m1 ho1 hg1
  have b1 : Ext w4.drew m1 := zck (Ext.refl _) (World.ownsRow_nil _ _ 5 _) (Nat.le_refl _) hg1
  rw [List.nil_append] at ho1
  have r1 : Row1 m1 v1 ((e).map bval) := Row1.of_own ho1
  have N1 : Ext w4 m1 := B0.trans b1
  have o1 : World.ownsRow m1 (w4).heap.size 5 1 v1 (e.length) (e.map bval) := own_eq (own_mono ho1 (B0).size) (by rw [List.length_map]; omega) rfl
  refine hK.out _ _ N1 (fun hHeld => ?_)
  clear hK K
  try simp only [Act.put, nrm]
  refine rdy 4 rfl fun K hK => ?_
  go_simp
  refine (rwra_any e z m1 HeL.out HzL.out (HG.out.ext (HE.out.trans N1))).mono ?_
  rintro e m2 ⟨rfl, b2⟩
  have r1 := r1.below b2
  have o1 := zbz o1 b2
  have N2 : Ext w4 m2 := N1.trans b2
  refine hK.out _ _ N2 (fun hHeld => ?_)
  clear hK K
  try simp only [Act.put, nrm]
  refine rdy 8 rfl fun K hK => ?_
  go_simp
  refine (rSeal_any (betK e z) (zB 12) key tb _ _ m2 (betK_length _ _) (zch _) ((zbo (n := 32) H3.out (by rw [List.length_map]; exact HKL.out) (by unfold maxLen; omega)).below N2) ((zbo (n := 32) H1.out (by rw [List.length_map]; exact HTL.out) (by unfold maxLen; omega)).below N2) (by rw [HKL.out]; decide) (by rw [HTL.out]; decide)).mono ?_
  rintro e m3 ⟨x3, rfl, o3, b3⟩
  have r1 := r1.below b3
  have o1 := zbz o1 b3
  have r3 : Row1 m3 x3 ((sealB (betK e z) (zB 12) key tb).map bval) := Row1.of_own o3
  obtain ⟨a3, c3, hx3, _⟩ := id r3
  rw [show ((sealB (betK e z) (zB 12) key tb).map bval).length = 48 from by rw [List.length_map, zcn, HKL.out]] at hx3
  subst hx3
  have N3 : Ext w4 m3 := N2.trans b3
  refine hK.out _ _ N3 (fun hHeld => ?_)
  clear hK K
  try simp only [Act.put, nrm]
  refine rdy 9 rfl fun K hK => ?_
  refine zaw (by rfl) ?_
  refine zdn _ _ 25 rfl (w4).heap.size 5 i0 (.int .u8 0) 1 Tryz.underlying25 HI0.out HZ0.out HZ1.out HZ2.out rfl (v1) (e).length _ rfl o1 rfl r3 (zag _) (by rw [List.length_map, zcn, HeL.out, HKL.out]; unfold maxLen; omega) (by rw [List.length_map, zcn, HeL.out, HKL.out]; omega) N3.size ?_
  intro v4 m4 ho4 hg4
  have N4 : Ext w4 m4 := zck N3 o1 (Nat.le_refl _) hg4
  have r4 : Row1 m4 v4 (((e ++ sealB (betK e z) (zB 12) key tb)).map bval) := by have h := Row1.of_own ho4; simpa using h
  refine hK.out _ _ N4 (fun hHeld => ?_)
  clear hK K
  try simp only [Act.put, nrm]
  refine tke 10 v4 rfl (yi_assign _ (v4) (by rfl) rfl rfl) hHeld ?_
  simp only [Act.put, nrm]
  refine rdy 11 rfl fun K hK => ?_
  go_simp
  refine hK.out _ _ N4 (fun hHeld => ?_)
  clear hK K
  try simp only [Act.put, nrm]
  refine dne ?_
  have HE5 := jh (HE.out.trans N4)
  have HS5 := jh r4
  generalize m4 = w5 at HE5 HS5 ⊢
  go_wp2_with fail
  refine bodyPost_ret (res_two rfl _ _) rfl ?_
  exact ⟨_, by rw [← HERQ.out, HRE.out]; rfl, by rw [HRL.out]; exact HS5.out, HE5.out⟩
theorem wrapWraps_any (tb d k : List UInt8) (w : World) (ht : tb.length = 32) (hd : d.length = 32) (hk : k.length = 32) (hG : GlobR w) (hK : GlobK w) : Calls Tryz.prog 3 #[.agg (tb.map bval).toArray, .agg (d.map bval).toArray, .agg (k.map bval).toArray] w fun e w' => e = .returned (.bool true) ∧ Below w.heap.size w w' := by
 have HG := jh hG
 have HGK := jh hK
 have HTL := jh ht
 have HDL := jh hd
 have HKL := jh hk
 clear ht hd hk hG hK
 have HW0 := jh (fun w hG => WWrap_num tb d k w HTL.out HDL.out HKL.out hG)
 have HW1 := jh (fun w hK => rWrap_any tb d k w HTL.out HDL.out HKL.out hK)
 generalize wraL tb d k = x at *
 generalize shErr d tb = er at *
 have HB := jh (boxes3 w (tb.map bval) (d.map bval) (k.map bval) 23 23 23)
 go_enter Tryz.func3, Tryz.ntmps3
 go_upto_region 1 with (fail)
 obtain ⟨H1, H2, H3, HE⟩ := HB.out
 change Code.wp _ _ _ _ ((((w.alloc (.cells (tb.map bval).toArray 23)).alloc (.cells (d.map bval).toArray 23)).alloc (.cells (k.map bval).toArray 23)))
 generalize (((w.alloc (.cells (tb.map bval).toArray 23)).alloc (.cells (d.map bval).toArray 23)).alloc (.cells (k.map bval).toArray 23)) = wa at *
 obtain ⟨A, hA⟩ : ∃ A, A = w.heap.size := ⟨_, rfl⟩
 rw [← hA] at H1 H2 H3 ⊢
 have H1 := jh H1
 have H2 := jh H2
 have H3 := jh H3
 have HE : Hid (Ext w wa) := jh HE
 clear hA HB
 have HItb := jh (zaf HTL.out)
 have HId := jh (zaf HDL.out)
 have HIk := jh (zaf HKL.out)
 go_wp2_with fail
 refine (alive_any14 wa (HG.out.ext HE.out)).mono ?_
 rintro e wb ⟨rfl, hb⟩
 have H1 := jh (zaa H1.out hb)
 have H2 := jh (zaa H2.out hb)
 have H3 := jh (zaa H3.out hb)
 have HE := jh (HE.out.trans hb)
 clear hb
 go_wp2_with (first | (refine zab rfl _ _ rfl (A) rfl _ _ _ _ H1.out Tryz.underlying23 HItb.out ?_) | (refine zab rfl _ _ rfl (A + 1) rfl _ _ _ _ H2.out Tryz.underlying23 HId.out ?_) | (refine zab rfl _ _ rfl (A + 1 + 1) rfl _ _ _ _ H3.out Tryz.underlying23 HIk.out ?_))
 refine (HW0.out wb (HG.out.ext HE.out)).mono ?_
 rintro e wc ⟨x1, rfl, hr, hb⟩
 have H1 := jh (zaa H1.out hb)
 have H2 := jh (zaa H2.out hb)
 have H3 := jh (zaa H3.out hb)
 have HE := jh (HE.out.trans hb)
 have HR1 := jh hr
 obtain ⟨a1, c1, hx, _⟩ := id hr
 rw [List.length_map] at hx
 subst hx
 clear hb hr
 go_wp2_with (first | (refine zab rfl _ _ rfl (A) rfl _ _ _ _ H1.out Tryz.underlying23 HItb.out ?_) | (refine zab rfl _ _ rfl (A + 1) rfl _ _ _ _ H2.out Tryz.underlying23 HId.out ?_) | (refine zab rfl _ _ rfl (A + 1 + 1) rfl _ _ _ _ H3.out Tryz.underlying23 HIk.out ?_))
 refine (HW1.out wc (HGK.out.ext HE.out)).mono ?_
 rintro e wd ⟨x2, rfl, hr, hb⟩
 have H1 := jh (zaa H1.out hb)
 have H2 := jh (zaa H2.out hb)
 have H3 := jh (zaa H3.out hb)
 have HR1 := jh (HR1.out.below hb)
 have HE := jh (HE.out.trans hb)
 have HR2 := jh hr
 obtain ⟨a2, c2, hx, _⟩ := id hr
 rw [List.length_map] at hx
 subst hx
 clear hb hr
 have hs1 := zdh (P := Tryz.prog) 25 9 5 Tryz.underlying25 Tryz.underlying5 Tryz.underlying9 HR1.out
 have hs2 := zdh (P := Tryz.prog) 25 9 5 Tryz.underlying25 Tryz.underlying5 Tryz.underlying9 HR2.out
 go_wp2_with fail
 refine (wra_num_any er wd).mono ?_
 rintro e wq ⟨rfl, rfl⟩
 go_wp2_with fail
 go_ret
 exact ⟨rfl, HE.out⟩
end Go.Proofs.YtimmnieopifcbaaGreatDoor
