/- Texts that belong together, one behind the other. -/
import Derived.Test.YtckggbkoabmjiaaGreatDoorQz11
import Derived.Test.YtckggbkoabmjiaaGreatDoorQz18
namespace Go.Proofs.YtckggbkoabmjiaaGreatDoor
set_option linter.unusedVariables false
set_option linter.unusedSimpArgs false
open Go.RowKit
set_option maxRecDepth 100000 in
set_option maxHeartbeats 8000000 in
theorem curveTurned_any (sd : List UInt8) (v : Value) (m : List UInt8) (what i : Int) (y : UInt8) (w : World) (ha : sd.length = 32) (ht : Row1 w v (m.map bval)) (hR : GlobRQ w) (hT : GlobT w) (hG : GlobC w) (hK : GlobK5 w) (hO : GlobO w) (hD : GlobD w) (hL : Glob w) (hX : GlobX w) (hY : GlobY w) : Calls Tryz.prog 4 #[.agg (sd.map bval).toArray, v, .int .i64 what, .int .i64 i, .int .u8 (y.toNat : Int)] w fun e w' => e = .returned (.bool true) ∧ Below w.heap.size w w' := by
 have HAL := Lib.hid ha
 clear ha
 obtain ⟨tA, tC, hform, hlc, hcm, _⟩ := id ht
 rw [List.length_map] at hform hlc
 subst hform
 unfold maxLen at hcm
 have Ht := Lib.hid ht
 clear ht
 obtain ⟨iq, hq0, hq1, hq2⟩ := info_two (P := Tryz.prog) (t := 26) (z := .slice none 0 0) (n := 1) (by kernel_rfl)
 have HQ0 := Lib.hid hq0
 have HQ1 := Lib.hid hq1
 have HQ2 := Lib.hid hq2
 clear hq0 hq1 hq2
 have HGR := Lib.hid hR
 have HGT := Lib.hid hT
 have HGC := Lib.hid hG
 have HGK := Lib.hid hK
 have HGO := Lib.hid hO
 have HGD := Lib.hid hD
 have HGL := Lib.hid hL
 have HGX := Lib.hid hX
 have HGY := Lib.hid hY
 clear hR hT hG hK hO hD hL hX hY
 obtain ⟨i0, hi0, hz0, hz1, hz2⟩ := info_parts Tryz.info5
 have HI0 := Lib.hid hi0
 have HZ0 := Lib.hid hz0
 have HZ1 := Lib.hid hz1
 have HZ2 := Lib.hid hz2
 clear hi0 hz0 hz1 hz2
 obtain ⟨yv, hyv⟩ : ∃ z, z = ((y.toNat : Nat) : Int) := ⟨_, rfl⟩
 rw [← hyv]
 have HYV := Lib.hid hyv
 have hy0 : 0 ≤ yv := by omega
 have hy1 : yv < 256 := by have := y.toNat_lt; omega
 clear hyv
 have HB := Lib.hid (zeg w (sd.map bval) 23)
 go_enter Tryz.func4, Tryz.ntmps4
 go_upto_region 1 with (fail)
 obtain ⟨H1, HE⟩ := HB.out
 change Code.wp _ _ _ _ (World.alloc w (.cells (sd.map bval).toArray 23))
 generalize (World.alloc w (.cells (sd.map bval).toArray 23)) = wa at *
 obtain ⟨A, hA⟩ : ∃ A, A = w.heap.size := ⟨_, rfl⟩
 have HAW : Hid (w.heap.size ≤ A) := Lib.hid (by omega)
 rw [← hA] at H1 ⊢
 have H1 := Lib.hid H1
 have HE : Hid (Ext w wa) := Lib.hid HE
 clear hA HB
 go_wp2_with fail
 refine (alive_any13 _ (HGR.out.ext HE.out) (HGT.out.ext HE.out) (HGC.out.ext HE.out)).mono ?_
 rintro e w5 ⟨rfl, hb⟩
 have H1 := Lib.hid (zaa H1.out hb)
 have HE := Lib.hid (HE.out.trans hb)
 clear hb
 generalize w5 = w6 at *
 by_cases h3 : 500 < m.length
 ·have h3' : (500 : Int) < (m.length : Int) := by omega
  go_wp2_with fail
  go_ret
  exact ⟨rfl, HE.out⟩
 ·have h3' : (m.length : Int) ≤ 500 := by omega
  have d3 : decide (500 < (m.length : Int)) = false := decide_eq_false (by omega)
  have HLS : Hid (m.length ≤ 500) := Lib.hid (by omega)
  clear h3
  by_cases h5 : i < 0
  ·skip
   go_wp2_with fail
   go_ret
   exact ⟨rfl, HE.out⟩
  ·have h5' : decide (i < 0) = false := decide_eq_false h5
   have h50 : 0 ≤ i := by omega
   by_cases h4 : yv = 0
   ·have h4' : decide (yv = 0) = true := decide_eq_true h4
    have h4'' : (yv == 0) = true := by simp [h4]
    go_wp2_with fail
    go_ret
    exact ⟨rfl, HE.out⟩
   ·have h4' : decide (yv = 0) = false := decide_eq_false h4
    have h4'' : (yv == 0) = false := by simp [h4]
    go_wp2_with (first | (refine wpList_load_mid rfl _ _ rfl A 0 rfl _ _ (H1.out.range) Tryz.underlying23 rfl (zae HAL.out) ?_))
    refine (rpublic_f sd _ HAL.out (HGK.out.ext HE.out) (HGD.out.ext HE.out) (HGX.out.ext HE.out) (HGY.out.ext HE.out)).mono ?_
    rintro e wp ⟨rfl, hb⟩
    have H1 := Lib.hid (zaa H1.out hb)
    have HE := Lib.hid (HE.out.trans hb)
    clear hb
    have HLkb := Lib.hid (edPub_length sd)
    obtain ⟨kb, hnm⟩ : ∃ k, k = edPub sd := ⟨_, rfl⟩
    rw [← hnm] at HLkb ⊢
    have HNkb := Lib.hid hnm
    clear hnm
    have HZ := Lib.hid (Blk.made wp (ints .u8 (List.replicate 32 0)) 23)
    have HEA := Lib.hid (Ext.alloc wp (.cells (ints .u8 (List.replicate 32 0)).toArray 23))
    have HL : Hid ((kb.map bval).length = (ints .u8 (List.replicate 32 0)).length) := Lib.hid (by rw [List.length_map, HLkb.out]; rfl)
    have HWW : Hid (w.heap.size ≤ wp.heap.size) := Lib.hid (HE.out.size)
    go_upto_region 5 with (refine zac rfl _ _ _ rfl wp.heap.size (kb.map bval) rfl rfl _ _ HZ.out HL.out (zae HLkb.out) (zaj _) ?_; intro w7 hb hg)
    have HX := Lib.hid (zad HEA.out hg (Nat.le_refl _))
    obtain ⟨pk, hT⟩ : ∃ T, T = wp.heap.size := ⟨_, rfl⟩
    rw [← hT] at hb HWW ⊢
    clear hT
    have H1 := Lib.hid (zaa H1.out HX.out)
    have HE := Lib.hid (HE.out.trans HX.out)
    have HVk := Lib.hid hb
    clear hb hg HX HZ HEA HL
    generalize w7 = wk at *
    go_wp2_with (first | (refine wpList_load_mid rfl _ _ rfl A 0 rfl _ _ (H1.out.range) Tryz.underlying23 rfl (zae HAL.out) ?_))
    refine (rsign_f sd m _ _ HAL.out (Ht.out.below HE.out) (by have := HLS.out; omega) (HGK.out.ext HE.out) (HGO.out.ext HE.out) (HGD.out.ext HE.out) (HGX.out.ext HE.out) (HGY.out.ext HE.out)).mono ?_
    rintro e wq ⟨rfl, hb⟩
    have H1 := Lib.hid (zaa H1.out hb)
    have HVk := Lib.hid (zaa HVk.out hb)
    have HE := Lib.hid (HE.out.trans hb)
    clear hb
    have HLgb := Lib.hid (edSign_length sd m)
    obtain ⟨gb, hnm⟩ : ∃ k, k = edSign sd m := ⟨_, rfl⟩
    rw [← hnm] at HLgb ⊢
    have HNgb := Lib.hid hnm
    clear hnm
    have HZ := Lib.hid (Blk.made wq (ints .u8 (List.replicate 64 0)) 25)
    have HEA := Lib.hid (Ext.alloc wq (.cells (ints .u8 (List.replicate 64 0)).toArray 25))
    have HL : Hid ((gb.map bval).length = (ints .u8 (List.replicate 64 0)).length) := Lib.hid (by rw [List.length_map, HLgb.out]; rfl)
    have HPK : Hid (pk < wq.heap.size) := Lib.hid (HVk.out.lt)
    go_upto_region 6 with (refine zac rfl _ _ _ rfl wq.heap.size (gb.map bval) rfl rfl _ _ HZ.out HL.out (zce HLgb.out) (zaj _) ?_; intro w7 hb hg)
    have HX := Lib.hid (zad HEA.out hg (Nat.le_refl _))
    obtain ⟨pg, hT⟩ : ∃ T, T = wq.heap.size := ⟨_, rfl⟩
    rw [← hT] at hb HPK ⊢
    clear hT
    have H1 := Lib.hid (zaa H1.out HX.out)
    have HVk := Lib.hid (zaa HVk.out HX.out)
    have HE := Lib.hid (HE.out.trans HX.out)
    have HVg := Lib.hid hb
    clear hb hg HX HZ HEA HL
    generalize w7 = wg at *
    have HTW := Lib.hid (Ht.out.below HE.out)
    have HGT2 : Hid (pk < wg.heap.size ∧ pg < wg.heap.size) := Lib.hid ⟨HVk.out.lt, HVg.out.lt⟩
    go_upto_region 7 with (at_builtin; refine zbv rfl _ _ 26 rfl wg.heap.size 5 i0 (.int .u8 0) 1 Tryz.underlying26 HI0.out HZ0.out HZ1.out HZ2.out rfl _ _ _ rfl (World.ownsRow_nil _ _ _ _) rfl HTW.out (zaj _) (by rw [List.length_map]; have := HLS.out; unfold maxLen; omega) (by rw [List.length_map]; have := HLS.out; omega) (Nat.le_refl _) ?_; intro v3 w3 ho3 hg3)
    rw [List.nil_append] at ho3
    have HX := Lib.hid (ext_own (Ext.refl _) (World.ownsRow_nil _ _ 5 _) (Nat.le_refl _) hg3)
    have HOC := Lib.hid ho3
    have H1g := H1
    have HVkg := HVk
    have HVgg := HVg
    have HEg := HE
    have HXg := HX
    have HBS : Hid (wg.heap.size ≤ w3.heap.size) := Lib.hid HX.out.size
    have H1 := Lib.hid (zaa H1.out HX.out)
    have HVk := Lib.hid (zaa HVk.out HX.out)
    have HVg := Lib.hid (zaa HVg.out HX.out)
    have HE := Lib.hid (HE.out.trans HX.out)
    clear ho3 hg3 HX HTW
    generalize w3 = wc at *
    by_cases w0 : what = 0
    ·have w0' : decide (what = 0) = true := decide_eq_true w0
     have w0'' : (what == 0) = true := by simp [w0]
     obtain ⟨k, hkk⟩ : ∃ k : Nat, k = i.toNat % 64 := ⟨_, rfl⟩
     have hkn : k < 64 := by rw [hkk]; exact Nat.mod_lt _ (by omega)
     have k1 : i % 64 = (k : Int) := by omega
     have k2 : Int.tmod i 64 = (k : Int) := by rw [Int.tmod_eq_emod_of_nonneg (by omega)]; exact k1
     have k3 : (k : Int) < 64 := by omega
     have k0 : (0 : Int) ≤ (k : Int) := Int.natCast_nonneg _
     have c1 := HVg.out.cell k
     rw [zbm (by rw [HLgb.out]; exact hkn)] at c1
     have f1 := HVg.out.free k
     have HXR : Hid (bits .xor .u8 ((gb.getD k 0).toNat : Int) yv = (((gb.getD k 0 ^^^ y).toNat : Nat) : Int)) := Lib.hid (by rw [HYV.out]; exact xor_u8 _ _)
     have HSM : Hid ((gb.map bval).set k (.int .u8 (((gb.getD k 0 ^^^ y).toNat : Nat) : Int)) = (gb.set k (gb.getD k 0 ^^^ y)).map bval) := Lib.hid (by rw [List.map_set]; rfl)
     have HNL : Hid ((gb.set k (gb.getD k 0 ^^^ y)).length = 64) := Lib.hid (by rw [List.length_set, HLgb.out])
     clear hkk hkn
     generalize ((gb.getD k 0).toNat : Int) = z0 at *
     generalize gb.set k (gb.getD k 0 ^^^ y) = gt at *
     generalize (((gb.getD k 0 ^^^ y).toNat : Nat) : Int) = z1 at *
     go_upto_region 13 with (fail)
     rw [HXR.out]
     have HM := Lib.hid (HVg.out.set k (.int .u8 z1))
     rw [HSM.out] at HM
     have HVk := Lib.hid (HVk.out.far (a := ⟨pg, k, none⟩) (by have := HPK.out; simp; omega) (.int .u8 z1))
     have hcr0 := (Row1.of_own HOC.out).store (a := ⟨pg, k, none⟩) (fun e => by have h := (HOC.out.lt _ e).1; have := HGT2.out; simp at h; omega) (.int .u8 z1)
     have HE := Lib.hid (Below.setCell HE.out (p := ⟨pg, k, none⟩) (by have := HPK.out; have := HWW.out; simp; omega) (.int .u8 z1))
     generalize wc.setCell ⟨pg, k, none⟩ (.int .u8 z1) = we at *
     have HE : Hid (Ext w we) := Lib.hid HE.out
     clear c1 f1 HXR HSM HVg
     have HVg := HM
     clear HM
     obtain ⟨cA, cC, hcv, _⟩ := id hcr0
     obtain ⟨cN, hcn⟩ : ∃ n, n = (m.map bval).length := ⟨_, rfl⟩
     rw [← hcn] at hcv
     subst hcv
     have HCR := Lib.hid hcr0
     clear hcr0 hcn HOC
     obtain ⟨vb, hvb⟩ : ∃ k, verB kb gt m = k := ⟨_, rfl⟩
     have HVB := Lib.hid hvb
     clear hvb
     go_wp2_with fail
     have B0 : Ext we we.drew := Ext.drew _
     refine wp_region_held_drew (S := fun w' => Ext we w') (by kernel_rfl) B0 (fun hHeld => ?_)
     refine tke 0 (.agg ((kb).map bval).toArray) rfl (yieldsIf_load_mid (by rfl) _ _ rfl pk 0 rfl _ _ (fun w h => zas HVk.out h) Tryz.underlying23 rfl (zae HLkb.out)) hHeld ?_
     simp only [Act.put, nrm]
     refine tke 1 (.agg ((gt).map bval).toArray) rfl (yieldsIf_load_mid (by rfl) _ _ rfl pg 0 rfl _ _ (fun w h => zas HVg.out h) Tryz.underlying25 rfl (zce HNL.out)) hHeld ?_
     simp only [Act.put, nrm]
     refine tke 2 (.slice cA cN cC) rfl (zcm _ (.slice cA cN cC) (by rfl) rfl rfl) hHeld ?_
     simp only [Act.put, nrm]
     refine tke 5 (.agg ((kb).map bval).toArray) rfl (yieldsIf_load_mid (by rfl) _ _ rfl pk 0 rfl _ _ (fun w h => zas HVk.out h) Tryz.underlying23 rfl (zae HLkb.out)) hHeld ?_
     simp only [Act.put, nrm]
     refine tke 6 (.agg ((gt).map bval).toArray) rfl (yieldsIf_load_mid (by rfl) _ _ rfl pg 0 rfl _ _ (fun w h => zas HVg.out h) Tryz.underlying25 rfl (zce HNL.out)) hHeld ?_
     simp only [Act.put, nrm]
     refine tke 7 (.slice cA cN cC) rfl (zcm _ (.slice cA cN cC) (by rfl) rfl rfl) hHeld ?_
     simp only [Act.put, nrm]
     refine rdy 3 rfl fun K hK => ?_
     refine zao (by rfl) ?_
     refine zbr (some 69) _ _ _ _ rfl rfl #[.slice cA cN cC] iq (.slice none 0 0) Tryz.underlying35 HQ0.out HQ1.out (by rw [HQ2.out]; decide) (by rw [HQ2.out]; decide) (by rw [HQ2.out]; kernel_rfl) ?_
     obtain ⟨m1, hm1⟩ : ∃ wNew, wNew = World.alloc we.drew (.cells #[.slice cA cN cC] 26) := ⟨_, rfl⟩
     rw [← hm1]
     have b1 : Ext we.drew m1 := by rw [hm1]; exact Ext.alloc _ _
     obtain ⟨g1, hg1⟩ : ∃ gNew, gNew = (we.drew).heap.size := ⟨_, rfl⟩
     rw [← hg1]
     have r1 : Row1 m1 (.slice (some ⟨g1, 0, none⟩) 1 1) [.slice cA cN cC] := by rw [hm1, hg1]; exact Row1.made _ _ _ _ _ _ rfl rfl rfl (by unfold maxLen; omega)
     clear hm1 hg1
     have N1 : Ext we m1 := B0.trans b1
     refine hK.out _ _ N1 (fun hHeld => ?_)
     clear hK K
     try simp only [Act.put, nrm]
     refine rdy 4 rfl fun K hK => ?_
     go_simp
     have hve := cver_rows kb gt m _ [m] _ HLkb.out HNL.out (rowB1 r1 ((HCR.out).below N1)) (by simp) (by have := HLS.out; omega) (by simp) (HGR.out.ext (HE.out.trans N1)) (HGT.out.ext (HE.out.trans N1)) (HGC.out.ext (HE.out.trans N1))
     rw [HVB.out] at hve
     refine (hve).mono ?_
     rintro e m2 ⟨rfl, b2⟩
     have r1 := r1.below b2
     have N2 : Ext we m2 := N1.trans b2
     refine hK.out _ _ N2 (fun hHeld => ?_)
     clear hK K
     try simp only [Act.put, nrm]
     refine rdy 8 rfl fun K hK => ?_
     go_simp
     have hrv := rverify_f kb gt m _ _ HLkb.out HNL.out ((HCR.out).below N2) (by have := HLS.out; omega) (HGK.out.ext (HE.out.trans N2)) (HGO.out.ext (HE.out.trans N2)) (HGD.out.ext (HE.out.trans N2)) (HGL.out.ext (HE.out.trans N2)) (HGX.out.ext (HE.out.trans N2)) (HGY.out.ext (HE.out.trans N2))
     rw [HVB.out] at hrv
     refine (hrv).mono ?_
     rintro e m3 ⟨rfl, b3⟩
     have r1 := r1.below b3
     have N3 : Ext we m3 := N2.trans b3
     refine hK.out _ _ N3 (fun hHeld => ?_)
     clear hK K
     try simp only [Act.put, nrm]
     refine tke 9 (.bool true) rfl (yi_eqb _ _ _ _ vb vb true (by simp) Tryz.underlying4 (by rfl) rfl rfl rfl) hHeld ?_
     simp only [Act.put, nrm]
     refine rdy 10 rfl fun K hK => ?_
     go_simp
     refine hK.out _ _ N3 (fun hHeld => ?_)
     clear hK K
     try simp only [Act.put, nrm]
     refine dne ?_
     go_wp2_with fail
     go_ret
     exact ⟨rfl, HE.out.trans N3⟩
    ·have w0' : decide (what = 0) = false := decide_eq_false w0
     have w0'' : (what == 0) = false := by simp [w0]
     by_cases w1 : what = 1
     ·have w1' : decide (what = 1) = true := decide_eq_true w1
      have w1'' : (what == 1) = true := by simp [w1]
      obtain ⟨k, hkk⟩ : ∃ k : Nat, k = i.toNat % 32 := ⟨_, rfl⟩
      have hkn : k < 32 := by rw [hkk]; exact Nat.mod_lt _ (by omega)
      have k1 : i % 32 = (k : Int) := by omega
      have k2 : Int.tmod i 32 = (k : Int) := by rw [Int.tmod_eq_emod_of_nonneg (by omega)]; exact k1
      have k3 : (k : Int) < 32 := by omega
      have k0 : (0 : Int) ≤ (k : Int) := Int.natCast_nonneg _
      have c1 := HVk.out.cell k
      rw [zbm (by rw [HLkb.out]; exact hkn)] at c1
      have f1 := HVk.out.free k
      have HXR : Hid (bits .xor .u8 ((kb.getD k 0).toNat : Int) yv = (((kb.getD k 0 ^^^ y).toNat : Nat) : Int)) := Lib.hid (by rw [HYV.out]; exact xor_u8 _ _)
      have HSM : Hid ((kb.map bval).set k (.int .u8 (((kb.getD k 0 ^^^ y).toNat : Nat) : Int)) = (kb.set k (kb.getD k 0 ^^^ y)).map bval) := Lib.hid (by rw [List.map_set]; rfl)
      have HNL : Hid ((kb.set k (kb.getD k 0 ^^^ y)).length = 32) := Lib.hid (by rw [List.length_set, HLkb.out])
      clear hkk hkn
      generalize ((kb.getD k 0).toNat : Int) = z0 at *
      generalize kb.set k (kb.getD k 0 ^^^ y) = kt at *
      generalize (((kb.getD k 0 ^^^ y).toNat : Nat) : Int) = z1 at *
      go_upto_region 13 with (fail)
      rw [HXR.out]
      have HM := Lib.hid (HVk.out.set k (.int .u8 z1))
      rw [HSM.out] at HM
      have HVg := Lib.hid (HVg.out.far (a := ⟨pk, k, none⟩) (by have := HPK.out; simp; omega) (.int .u8 z1))
      have hcr0 := (Row1.of_own HOC.out).store (a := ⟨pk, k, none⟩) (fun e => by have h := (HOC.out.lt _ e).1; have := HGT2.out; simp at h; omega) (.int .u8 z1)
      have HE := Lib.hid (Below.setCell HE.out (p := ⟨pk, k, none⟩) (by have := HPK.out; have := HWW.out; simp; omega) (.int .u8 z1))
      generalize wc.setCell ⟨pk, k, none⟩ (.int .u8 z1) = we at *
      have HE : Hid (Ext w we) := Lib.hid HE.out
      clear c1 f1 HXR HSM HVk
      have HVk := HM
      clear HM
      obtain ⟨cA, cC, hcv, _⟩ := id hcr0
      obtain ⟨cN, hcn⟩ : ∃ n, n = (m.map bval).length := ⟨_, rfl⟩
      rw [← hcn] at hcv
      subst hcv
      have HCR := Lib.hid hcr0
      clear hcr0 hcn HOC
      obtain ⟨vb, hvb⟩ : ∃ k, verB kt gb m = k := ⟨_, rfl⟩
      have HVB := Lib.hid hvb
      clear hvb
      go_wp2_with fail
      have B0 : Ext we we.drew := Ext.drew _
      refine wp_region_held_drew (S := fun w' => Ext we w') (by kernel_rfl) B0 (fun hHeld => ?_)
      refine tke 0 (.agg ((kt).map bval).toArray) rfl (yieldsIf_load_mid (by rfl) _ _ rfl pk 0 rfl _ _ (fun w h => zas HVk.out h) Tryz.underlying23 rfl (zae HNL.out)) hHeld ?_
      simp only [Act.put, nrm]
      refine tke 1 (.agg ((gb).map bval).toArray) rfl (yieldsIf_load_mid (by rfl) _ _ rfl pg 0 rfl _ _ (fun w h => zas HVg.out h) Tryz.underlying25 rfl (zce HLgb.out)) hHeld ?_
      simp only [Act.put, nrm]
      refine tke 2 (.slice cA cN cC) rfl (zcm _ (.slice cA cN cC) (by rfl) rfl rfl) hHeld ?_
      simp only [Act.put, nrm]
      refine tke 5 (.agg ((kt).map bval).toArray) rfl (yieldsIf_load_mid (by rfl) _ _ rfl pk 0 rfl _ _ (fun w h => zas HVk.out h) Tryz.underlying23 rfl (zae HNL.out)) hHeld ?_
      simp only [Act.put, nrm]
      refine tke 6 (.agg ((gb).map bval).toArray) rfl (yieldsIf_load_mid (by rfl) _ _ rfl pg 0 rfl _ _ (fun w h => zas HVg.out h) Tryz.underlying25 rfl (zce HLgb.out)) hHeld ?_
      simp only [Act.put, nrm]
      refine tke 7 (.slice cA cN cC) rfl (zcm _ (.slice cA cN cC) (by rfl) rfl rfl) hHeld ?_
      simp only [Act.put, nrm]
      refine rdy 3 rfl fun K hK => ?_
      refine zao (by rfl) ?_
      refine zbr (some 69) _ _ _ _ rfl rfl #[.slice cA cN cC] iq (.slice none 0 0) Tryz.underlying35 HQ0.out HQ1.out (by rw [HQ2.out]; decide) (by rw [HQ2.out]; decide) (by rw [HQ2.out]; kernel_rfl) ?_
      obtain ⟨m1, hm1⟩ : ∃ wNew, wNew = World.alloc we.drew (.cells #[.slice cA cN cC] 26) := ⟨_, rfl⟩
      rw [← hm1]
      have b1 : Ext we.drew m1 := by rw [hm1]; exact Ext.alloc _ _
      obtain ⟨g1, hg1⟩ : ∃ gNew, gNew = (we.drew).heap.size := ⟨_, rfl⟩
      rw [← hg1]
      have r1 : Row1 m1 (.slice (some ⟨g1, 0, none⟩) 1 1) [.slice cA cN cC] := by rw [hm1, hg1]; exact Row1.made _ _ _ _ _ _ rfl rfl rfl (by unfold maxLen; omega)
      clear hm1 hg1
      have N1 : Ext we m1 := B0.trans b1
      refine hK.out _ _ N1 (fun hHeld => ?_)
      clear hK K
      try simp only [Act.put, nrm]
      refine rdy 4 rfl fun K hK => ?_
      go_simp
      have hve := cver_rows kt gb m _ [m] _ HNL.out HLgb.out (rowB1 r1 ((HCR.out).below N1)) (by simp) (by have := HLS.out; omega) (by simp) (HGR.out.ext (HE.out.trans N1)) (HGT.out.ext (HE.out.trans N1)) (HGC.out.ext (HE.out.trans N1))
      rw [HVB.out] at hve
      refine (hve).mono ?_
      rintro e m2 ⟨rfl, b2⟩
      have r1 := r1.below b2
      have N2 : Ext we m2 := N1.trans b2
      refine hK.out _ _ N2 (fun hHeld => ?_)
      clear hK K
      try simp only [Act.put, nrm]
      refine rdy 8 rfl fun K hK => ?_
      go_simp
      have hrv := rverify_f kt gb m _ _ HNL.out HLgb.out ((HCR.out).below N2) (by have := HLS.out; omega) (HGK.out.ext (HE.out.trans N2)) (HGO.out.ext (HE.out.trans N2)) (HGD.out.ext (HE.out.trans N2)) (HGL.out.ext (HE.out.trans N2)) (HGX.out.ext (HE.out.trans N2)) (HGY.out.ext (HE.out.trans N2))
      rw [HVB.out] at hrv
      refine (hrv).mono ?_
      rintro e m3 ⟨rfl, b3⟩
      have r1 := r1.below b3
      have N3 : Ext we m3 := N2.trans b3
      refine hK.out _ _ N3 (fun hHeld => ?_)
      clear hK K
      try simp only [Act.put, nrm]
      refine tke 9 (.bool true) rfl (yi_eqb _ _ _ _ vb vb true (by simp) Tryz.underlying4 (by rfl) rfl rfl rfl) hHeld ?_
      simp only [Act.put, nrm]
      refine rdy 10 rfl fun K hK => ?_
      go_simp
      refine hK.out _ _ N3 (fun hHeld => ?_)
      clear hK K
      try simp only [Act.put, nrm]
      refine dne ?_
      go_wp2_with fail
      go_ret
      exact ⟨rfl, HE.out.trans N3⟩
     ·have w1' : decide (what = 1) = false := decide_eq_false w1
      have w1'' : (what == 1) = false := by simp [w1]
      have HYR : Hid (Row1 (wc.alloc (.cells #[.int .u8 yv] 5)) (.slice (some ⟨wc.heap.size, 0, none⟩) 1 1) ([y].map bval)) := Lib.hid (by
       have h : Row1 (wc.alloc (.cells #[.int .u8 yv] 5)) (.slice (some ⟨wc.heap.size, 0, none⟩) 1 1) [.int .u8 yv] := Row1.made wc #[.int .u8 yv] 5 _ 1 [.int .u8 yv] rfl rfl rfl (by unfold maxLen; omega)
       rw [HYV.out] at h ⊢
       exact h)
      have HEY := Lib.hid (Ext.alloc wc (.cells #[.int .u8 yv] 5))
      have HOC2 := Lib.hid (own_below HOC.out HEY.out)
      have HBS2 : Hid (wg.heap.size ≤ (wc.alloc (.cells #[.int .u8 yv] 5)).heap.size) := Lib.hid (Nat.le_trans HBS.out HEY.out.size)
      go_upto_region 13 with (at_builtin; refine zbv rfl _ _ 26 rfl wg.heap.size 5 i0 (.int .u8 0) 1 Tryz.underlying26 HI0.out HZ0.out HZ1.out HZ2.out rfl _ _ _ rfl HOC2.out rfl HYR.out (zaj _) (by rw [List.length_map, List.length_map]; have := HLS.out; simp; unfold maxLen; omega) (by rw [List.length_map, List.length_map]; have := HLS.out; simp; omega) HBS2.out ?_; intro v4 w4 ho4 hg4)
      have EX4 := ext_own (HXg.out.trans HEY.out) HOC2.out (Nat.le_refl _) hg4
      rw [← List.map_append] at ho4
      obtain ⟨ml, hml⟩ : ∃ l, l = m ++ [y] := ⟨_, rfl⟩
      rw [← hml] at ho4
      have HLM : Hid (ml.length ≤ 501) := Lib.hid (by rw [hml, List.length_append]; have := HLS.out; simp; omega)
      clear hml
      have H1 := Lib.hid (zaa H1g.out EX4)
      have HVk := Lib.hid (zaa HVkg.out EX4)
      have HVg := Lib.hid (zaa HVgg.out EX4)
      have HE := Lib.hid (HEg.out.trans EX4)
      have hcr0 := Row1.of_own ho4
      clear EX4 hg4 ho4 HYR HEY HOC2 HBS2 HOC
      generalize w4 = we at *
      obtain ⟨cA, cC, hcv, _⟩ := id hcr0
      obtain ⟨cN, hcn⟩ : ∃ n, n = (ml.map bval).length := ⟨_, rfl⟩
      rw [← hcn] at hcv
      subst hcv
      have HCR := Lib.hid hcr0
      clear hcr0 hcn
      obtain ⟨vb, hvb⟩ : ∃ k, verB kb gb ml = k := ⟨_, rfl⟩
      have HVB := Lib.hid hvb
      clear hvb
      go_wp2_with fail
      have B0 : Ext we we.drew := Ext.drew _
      refine wp_region_held_drew (S := fun w' => Ext we w') (by kernel_rfl) B0 (fun hHeld => ?_)
      refine tke 0 (.agg ((kb).map bval).toArray) rfl (yieldsIf_load_mid (by rfl) _ _ rfl pk 0 rfl _ _ (fun w h => zas HVk.out h) Tryz.underlying23 rfl (zae HLkb.out)) hHeld ?_
      simp only [Act.put, nrm]
      refine tke 1 (.agg ((gb).map bval).toArray) rfl (yieldsIf_load_mid (by rfl) _ _ rfl pg 0 rfl _ _ (fun w h => zas HVg.out h) Tryz.underlying25 rfl (zce HLgb.out)) hHeld ?_
      simp only [Act.put, nrm]
      refine tke 2 (.slice cA cN cC) rfl (zcm _ (.slice cA cN cC) (by rfl) rfl rfl) hHeld ?_
      simp only [Act.put, nrm]
      refine tke 5 (.agg ((kb).map bval).toArray) rfl (yieldsIf_load_mid (by rfl) _ _ rfl pk 0 rfl _ _ (fun w h => zas HVk.out h) Tryz.underlying23 rfl (zae HLkb.out)) hHeld ?_
      simp only [Act.put, nrm]
      refine tke 6 (.agg ((gb).map bval).toArray) rfl (yieldsIf_load_mid (by rfl) _ _ rfl pg 0 rfl _ _ (fun w h => zas HVg.out h) Tryz.underlying25 rfl (zce HLgb.out)) hHeld ?_
      simp only [Act.put, nrm]
      refine tke 7 (.slice cA cN cC) rfl (zcm _ (.slice cA cN cC) (by rfl) rfl rfl) hHeld ?_
      simp only [Act.put, nrm]
      refine rdy 3 rfl fun K hK => ?_
      refine zao (by rfl) ?_
      refine zbr (some 69) _ _ _ _ rfl rfl #[.slice cA cN cC] iq (.slice none 0 0) Tryz.underlying35 HQ0.out HQ1.out (by rw [HQ2.out]; decide) (by rw [HQ2.out]; decide) (by rw [HQ2.out]; kernel_rfl) ?_
      obtain ⟨m1, hm1⟩ : ∃ wNew, wNew = World.alloc we.drew (.cells #[.slice cA cN cC] 26) := ⟨_, rfl⟩
      rw [← hm1]
      have b1 : Ext we.drew m1 := by rw [hm1]; exact Ext.alloc _ _
      obtain ⟨g1, hg1⟩ : ∃ gNew, gNew = (we.drew).heap.size := ⟨_, rfl⟩
      rw [← hg1]
      have r1 : Row1 m1 (.slice (some ⟨g1, 0, none⟩) 1 1) [.slice cA cN cC] := by rw [hm1, hg1]; exact Row1.made _ _ _ _ _ _ rfl rfl rfl (by unfold maxLen; omega)
      clear hm1 hg1
      have N1 : Ext we m1 := B0.trans b1
      refine hK.out _ _ N1 (fun hHeld => ?_)
      clear hK K
      try simp only [Act.put, nrm]
      refine rdy 4 rfl fun K hK => ?_
      go_simp
      have hve := cver_rows kb gb ml _ [ml] _ HLkb.out HLgb.out (rowB1 r1 ((HCR.out).below N1)) (by simp) (by have := HLM.out; omega) (by simp) (HGR.out.ext (HE.out.trans N1)) (HGT.out.ext (HE.out.trans N1)) (HGC.out.ext (HE.out.trans N1))
      rw [HVB.out] at hve
      refine (hve).mono ?_
      rintro e m2 ⟨rfl, b2⟩
      have r1 := r1.below b2
      have N2 : Ext we m2 := N1.trans b2
      refine hK.out _ _ N2 (fun hHeld => ?_)
      clear hK K
      try simp only [Act.put, nrm]
      refine rdy 8 rfl fun K hK => ?_
      go_simp
      have hrv := rverify_f kb gb ml _ _ HLkb.out HLgb.out ((HCR.out).below N2) (by have := HLM.out; omega) (HGK.out.ext (HE.out.trans N2)) (HGO.out.ext (HE.out.trans N2)) (HGD.out.ext (HE.out.trans N2)) (HGL.out.ext (HE.out.trans N2)) (HGX.out.ext (HE.out.trans N2)) (HGY.out.ext (HE.out.trans N2))
      rw [HVB.out] at hrv
      refine (hrv).mono ?_
      rintro e m3 ⟨rfl, b3⟩
      have r1 := r1.below b3
      have N3 : Ext we m3 := N2.trans b3
      refine hK.out _ _ N3 (fun hHeld => ?_)
      clear hK K
      try simp only [Act.put, nrm]
      refine tke 9 (.bool true) rfl (yi_eqb _ _ _ _ vb vb true (by simp) Tryz.underlying4 (by rfl) rfl rfl rfl) hHeld ?_
      simp only [Act.put, nrm]
      refine rdy 10 rfl fun K hK => ?_
      go_simp
      refine hK.out _ _ N3 (fun hHeld => ?_)
      clear hK K
      try simp only [Act.put, nrm]
      refine dne ?_
      go_wp2_with fail
      go_ret
      exact ⟨rfl, HE.out.trans N3⟩
end Go.Proofs.YtckggbkoabmjiaaGreatDoor
