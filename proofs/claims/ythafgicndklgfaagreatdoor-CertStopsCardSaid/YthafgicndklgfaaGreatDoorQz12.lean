/- Texts that belong together, one behind the other. -/
import Derived.Test.YthafgicndklgfaaGreatDoorQz11
namespace Go.Proofs.YthafgicndklgfaaGreatDoor
set_option linter.unusedVariables false
set_option maxRecDepth 100000
set_option maxHeartbeats 32000000
set_option linter.unusedSimpArgs false
open Go.RowKit
def CMG (w : World) : Prop := GlobRQ w ∧ GlobT w ∧ GlobC w
theorem CMG.ext {w w' : World} (h : CMG w) (hb : Ext w w') : CMG w' := ⟨h.1.ext hb, h.2.1.ext hb, h.2.2.ext hb⟩
theorem crt_zero_sig (w : World) : (zeroValue 26).run Tryz.prog w = .ok (.agg (z64.map bval).toArray) w := by kernel_rfl
theorem cid_any (n : Int) (w : World) : Calls Tryz.prog 26 #[.int .i64 n] w fun e w' => e = .returned (.bool (smallB n)) ∧ w = w' := by
 by_cases h1 : 0 ≤ n
 ·by_cases h2 : n ≤ 2147483647
  ·have HB := jh (smallB_of h1 h2)
   go_enter Tryz.func26, Tryz.ntmps26
   go_wp2_with fail
   go_ret
   exact ⟨by rw [HB.out]; rfl, rfl⟩
  ·have HB := jh (smallB_not (n := n) (fun h => h2 h.2))
   go_enter Tryz.func26, Tryz.ntmps26
   go_wp2_with fail
   go_ret
   exact ⟨by rw [HB.out]; rfl, rfl⟩
 ·have HB := jh (smallB_not (n := n) (fun h => h1 h.1))
  go_enter Tryz.func26, Tryz.ntmps26
  go_wp2_with fail
  go_ret
  exact ⟨by rw [HB.out]; rfl, rfl⟩
theorem cid_b (n : Int) (r : Bool) (w : World) (hr : smallB n = r) : Calls Tryz.prog 26 #[.int .i64 n] w fun e w' => e = .returned (.bool r) ∧ Below w.heap.size w w' := by
 subst hr
 exact (cid_any n w).mono fun e w' h => ⟨h.1, h.2 ▸ Below.refl _ _⟩
theorem cmarked_any (mk : List UInt8) (n : Int) (w : World) (hm : mk.length = 4) : Calls Tryz.prog 29 #[.string ⟨mk.toArray⟩, .int .i64 n] w fun e w' => ∃ x, e = .returned x ∧ w'.ownsRow w.heap.size 5 1 x 12 ((mk ++ be8s [n]).map bval) ∧ Below w.heap.size w w' := by
 obtain ⟨a1, c1, m1, hcv1, r1, e1⟩ := run_bytes_row (P := Tryz.prog) w 9 46 5 mk Tryz.underlying9 Tryz.underlying46 Tryz.underlying5 (by rw [hm]; unfold maxLen; omega)
 have e2 := Ext.alloc m1 (.cells #[.int .i64 n] 3)
 have r2 : Row1 (m1.alloc (.cells #[.int .i64 n] 3)) (.slice (some ⟨m1.heap.size, 0, none⟩) 1 1) (([n] : List Int).map (.int .i64)) := Row1.made m1 #[.int .i64 n] 3 _ 1 _ rfl rfl rfl (by unfold maxLen; omega)
 have HC := jh (pint_own (bl := mk) (ns := [n]) _ (r1.below e2) r2 (by rw [hm]; simp))
 have HE := jh ((show Ext w m1 from e1).trans e2)
 have HM := jh hm
 rw [hm] at hcv1 HC
 clear r1 e1 e2 r2 hm
 go_enter Tryz.func29, Tryz.ntmps29
 go_wp2_with fail
 refine HC.out.mono ?_
 rintro e w1 ⟨x, rfl, ho, hb⟩
 have HO := jh (own_mono ho HE.out.size)
 have HE := jh (HE.out.trans hb)
 clear ho hb HC
 go_wp2_with fail
 go_ret
 exact ⟨x, rfl, own_eq HO.out (by rfl) rfl, HE.out⟩
theorem cSign_any (root key : List UInt8) (sid : Int) (w : World) (hr : root.length = 32) (hk : key.length = 32) (hG : CMG w) :
  Calls Tryz.prog 11 #[.agg (root.map bval).toArray, .int .i64 sid, .agg (key.map bval).toArray] w fun e w' => e = .returned (.tuple #[.agg (certC (sgnI sid key) (sgnK sid key) (sgnG root sid key)).toArray, .int .i64 (sgnE sid key)]) ∧ Below w.heap.size w w' := by
 obtain ⟨i0, hi, hz0, hz1, hz2⟩ := info_parts Tryz.info5
 obtain ⟨iq, hq0, hq1, hq2⟩ := info_two (P := Tryz.prog) (t := 46) (z := .slice none 0 0) (n := 1) (by kernel_rfl)
 have HI0 := jh hi
 have HZ0 := jh hz0
 have HZ1 := jh hz1
 have HZ2 := jh hz2
 have HQ0 := jh hq0
 have HQ1 := jh hq1
 have HQ2 := jh hq2
 clear hi hz0 hz1 hz2 hq0 hq1 hq2
 have HRL := jh hr
 have HKL := jh hk
 have HIR := jh (zaf hr)
 have HIK := jh (zaf hk)
 have HG := jh hG
 have HB := jh (boxes3 w (root.map bval) (key.map bval) (certC 0 z32 z64) 23 23 28)
 have HZC := jh (zce (id := 0) zdd zbi)
 have HZS := jh (zdx (id := 0) zdd zbi)
 clear hr hk hG
 go_enter Tryz.func11, Tryz.ntmps11
 go_upto_region 1 with (fail)
 obtain ⟨H1, H2, H3, HE⟩ := HB.out
 change Code.wp _ _ _ _ (((w.alloc (.cells (root.map bval).toArray 23)).alloc (.cells (key.map bval).toArray 23)).alloc (.cells (certC 0 z32 z64).toArray 28))
 generalize ((w.alloc (.cells (root.map bval).toArray 23)).alloc (.cells (key.map bval).toArray 23)).alloc (.cells (certC 0 z32 z64).toArray 28) = wa at *
 have HE : Hid (Ext w wa) := jh HE
 obtain ⟨C, hC⟩ : ∃ C, C = w.heap.size + 1 + 1 := ⟨_, rfl⟩
 have HLC : Hid (w.heap.size ≤ C) := jh (by omega)
 rw [← hC] at H3 ⊢
 obtain ⟨B, hB⟩ : ∃ B, B = w.heap.size + 1 := ⟨_, rfl⟩
 rw [← hB] at H2 ⊢
 obtain ⟨A, hA⟩ : ∃ A, A = w.heap.size := ⟨_, rfl⟩
 have HO : Hid (A < B ∧ B < C) := jh (by omega)
 rw [← hA] at H1 ⊢
 have H1 := jh H1
 have H2 := jh H2
 have HC0 := jh H3
 clear hA hB hC HB H3
 go_wp2_with fail
 refine (cid_any sid wa).mono ?_
 rintro e w' ⟨rfl, rfl⟩
 cases hsm : smallB sid with
 | false =>
  have HQ := jh (sgn_arg (key := key) hsm root)
  clear hsm
  go_wp2_with (first | (refine zaw rfl _ _ rfl _ rfl _ (build_cert0 _) ?_) | (refine zab rfl _ _ _ rfl C (certC 0 z32 z64) rfl rfl _ _ HC0.out rfl HZS.out (zev _ _ _) ?_; intro w9 hb9 hg9))
  refine bodyPost_ret (zar rfl _ C _ _ _ rfl hb9 Tryz.underlying28 rfl HZS.out) rfl ?_
  exact ⟨by rw [HQ.out.1, HQ.out.2.1, HQ.out.2.2.1, HQ.out.2.2.2]; rfl, zad HE.out hg9 HLC.out⟩
 | true =>
  have HSB := jh hsm
  clear hsm
  have HMY := jh (CMay_num key wa HKL.out (HG.out.ext HE.out).2.2)
  obtain ⟨my, hmy⟩ : ∃ my, my = mayB key := ⟨_, rfl⟩
  rw [← hmy] at HMY
  have HMB := jh hmy
  clear hmy
  go_wp2_with (refine zae rfl _ _ rfl B rfl _ _ _ _ H2.out Tryz.underlying23 HIK.out ?_)
  refine HMY.out.mono ?_
  rintro e w3 ⟨rfl, hb⟩
  have H1 := jh (zaa H1.out hb)
  have H2 := jh (zaa H2.out hb)
  have HC0 := jh (zaa HC0.out hb)
  have HE := jh (HE.out.trans hb)
  clear hb HMY
  cases my with
  | false =>
   have HQ := jh (sgn_key (key := key) HSB.out HMB.out.symm root)
   go_wp2_with (first | (refine zaw rfl _ _ rfl _ rfl _ (build_cert0 _) ?_) | (refine zab rfl _ _ _ rfl C (certC 0 z32 z64) rfl rfl _ _ HC0.out rfl HZS.out (zev _ _ _) ?_; intro w9 hb9 hg9))
   refine bodyPost_ret (zar rfl _ C _ _ _ rfl hb9 Tryz.underlying28 rfl HZS.out) rfl ?_
   exact ⟨by rw [HQ.out.1, HQ.out.2.1, HQ.out.2.2.1, HQ.out.2.2.2]; rfl, zad HE.out hg9 HLC.out⟩
  | true =>
   have HQ := jh (sgn_yes HSB.out HMB.out.symm root)
   obtain ⟨g, hg⟩ : ∃ g, g = edSign root (certT sid key) := ⟨_, rfl⟩
   have HGE : Hid (certG root sid key = g) := jh hg.symm
   have HGL : Hid (g.length = 64) := jh (by rw [hg]; exact zeo _ _)
   have HIS := jh (zct HGL.out)
   have HSG := jh (fun (x : Value) (wx : World) (hx : Ext w3 wx) (hr : RowB wx x [([80, 67, 67, 84] : List UInt8) ++ be8s [sid], key]) => by
    have hGw := HG.out.ext (HE.out.trans hx)
    have hf : [([80, 67, 67, 84] : List UInt8) ++ be8s [sid], key].flatten = certT sid key := by simp [certT]
    have h := CSign_num root x _ wx HRL.out hr (by rw [hf, certT_length, HKL.out]; decide) (by simp) hGw.1 hGw.2.1 hGw.2.2
    rw [hf, ← hg] at h
    exact h)
   clear hg
   go_upto_region 5 with (fail)
   have B0 : Ext w3 w3.drew := Ext.drew _
   refine wp_region_held_drew (S := fun w' => Ext w3 w') (by kernel_rfl) B0 (fun hHeld => ?_)
   refine tke 0 (.agg ((root).map bval).toArray) rfl (yieldsIf_load_mid (by rfl) _ _ rfl A 0 rfl _ _ (fun w h => zbe H1.out h) Tryz.underlying23 rfl HIR.out) hHeld ?_
   simp only [Act.put, nrm]
   refine tke 1 (.int .i64 sid) rfl (zcb _ (.int .i64 sid) (by rfl) rfl rfl) hHeld ?_
   simp only [Act.put, nrm]
   refine tke 3 (.slice (some ⟨B, 0, none⟩) 32 32) rfl (zew _ _ _ _ (.pointer (some ⟨B, 0, none⟩)) (.slice (some ⟨B, 0, none⟩) 32 32) none none (by rfl) rfl rfl rfl rfl (fun w => cut_whole Tryz.underlying23 Tryz.sizeOf5 (by omega) _ w)) hHeld ?_
   simp only [Act.put, nrm]
   refine wpAnyH_ready (rs := [2, 6]) (by kernel_rfl) (by simp) (AllReadyH.cons rfl (fun K hK => ?_) (AllReadyH.cons rfl (fun K hK => ?_) AllReadyH.nil))
   ·go_simp
    refine (cmarked_any ([80, 67, 67, 84] : List UInt8) sid w3.drew rfl).mono ?_
    rintro e m1 ⟨x1, rfl, o1, b1⟩
    have r1 : Row1 m1 x1 ((([80, 67, 67, 84] : List UInt8) ++ be8s [sid]).map bval) := Row1.of_own o1
    obtain ⟨a1, c1, hx1, _⟩ := id r1
    rw [show ((([80, 67, 67, 84] : List UInt8) ++ be8s [sid]).map bval).length = 12 from rfl] at hx1
    subst hx1
    have N1 : Ext w3 m1 := B0.trans b1
    refine hK.out _ _ N1 (fun hHeld => ?_)
    clear hK K
    try simp only [Act.put, nrm]
    refine wpAnyH_ready (rs := [4, 6]) (by kernel_rfl) (by simp) (AllReadyH.cons rfl (fun K hK => ?_) (AllReadyH.cons rfl (fun K hK => ?_) AllReadyH.nil))
    ·refine zan (by rfl) ?_
     refine zbv (some 21) _ _ _ _ rfl rfl #[.slice a1 12 c1, .slice (some ⟨B, 0, none⟩) 32 32] iq (.slice none 0 0) Tryz.underlying88 HQ0.out HQ1.out (by rw [HQ2.out]; decide) (by rw [HQ2.out]; decide) (by rw [HQ2.out]; kernel_rfl) ?_
     obtain ⟨m2, hm2⟩ : ∃ wNew, wNew = World.alloc m1 (.cells #[.slice a1 12 c1, .slice (some ⟨B, 0, none⟩) 32 32] 46) := ⟨_, rfl⟩
     rw [← hm2]
     have b2 : Ext m1 m2 := by rw [hm2]; exact Ext.alloc _ _
     obtain ⟨g2, hg2⟩ : ∃ gNew, gNew = (m1).heap.size := ⟨_, rfl⟩
     rw [← hg2]
     have r1 := r1.below b2
     have r2 : Row1 m2 (.slice (some ⟨g2, 0, none⟩) 2 2) [.slice a1 12 c1, .slice (some ⟨B, 0, none⟩) 32 32] := by rw [hm2, hg2]; exact Row1.made _ _ _ _ _ _ rfl rfl rfl (by unfold maxLen; omega)
     clear hm2 hg2
     have N2 : Ext w3 m2 := N1.trans b2
     refine hK.out _ _ N2 (fun hHeld => ?_)
     clear hK K
     try simp only [Act.put, nrm]
     refine wpAnyH_ready (rs := [5, 6]) (by kernel_rfl) (by simp) (AllReadyH.cons rfl (fun K hK => ?_) (AllReadyH.cons rfl (fun K hK => ?_) AllReadyH.nil))
     ·go_simp
      refine (HSG.out _ m2 N2 (rowB2 r2 r1 ((zcm (n := 32) H2.out (by rw [List.length_map]; exact HKL.out) (by unfold maxLen; omega)).below N2))).mono ?_
      rintro e m3 ⟨rfl, b3⟩
      have r1 := r1.below b3
      have r2 := r2.below b3
      have N3 : Ext w3 m3 := N2.trans b3
      refine hK.out _ _ N3 (fun hHeld => ?_)
      clear hK K
      try simp only [Act.put, nrm]
      refine rdy 6 rfl fun K hK => ?_
      refine zan (by rfl) ?_
      refine zax (some 8) _ (z64.map bval) rfl rfl crt_zero_sig ?_
      obtain ⟨m4, hm4⟩ : ∃ wNew, wNew = World.alloc m3 (.cells (z64.map bval).toArray 26) := ⟨_, rfl⟩
      rw [← hm4]
      have b4 : Ext m3 m4 := by rw [hm4]; exact Ext.alloc _ _
      obtain ⟨g4, hg4⟩ : ∃ gNew, gNew = (m3).heap.size := ⟨_, rfl⟩
      rw [← hg4]
      have z4 : Blk m4 g4 (z64.map bval) 26 := by rw [hm4, hg4]; exact Blk.made _ _ _
      have l4 : (w3).heap.size ≤ g4 := by rw [hg4]; exact N3.size
      clear hm4 hg4
      have r1 := r1.below b4
      have r2 := r2.below b4
      have N4 : Ext w3 m4 := N3.trans b4
      refine hK.out _ _ N4 (fun hHeld => ?_)
      clear hK K
      try simp only [Act.put, nrm]
      refine rdy 7 rfl fun K hK => ?_
      refine zan (by rfl) ?_
      refine zak _ _ _ rfl g4 ((g).map bval) rfl rfl _ _ z4 (by rw [List.length_map, HGL.out]; rfl) (zct (HGL.out)) (zaj _) ?_
      intro m5 hb5 hg5
      have N5 : Ext w3 m5 := zad N4 hg5 l4
      refine hK.out _ _ N5 (fun hHeld => ?_)
      clear hK K
      try simp only [Act.put, nrm]
      refine dne ?_
      have HS9 := jh hb5
      have HN9 := jh N5
      have HB9 := jh (zaa H2.out N5)
      have HC9 := jh (zaa HC0.out N5)
      generalize g4 = S9 at HS9 ⊢
      generalize m5 = w9 at HS9 HN9 HB9 HC9 ⊢
      go_wp2_with (first | (refine zae rfl _ _ rfl B rfl _ _ _ _ HB9.out Tryz.underlying23 HIK.out ?_) | (refine zae rfl _ _ rfl S9 rfl _ _ _ _ HS9.out Tryz.underlying26 HIS.out ?_) | (refine zaw rfl 28 #[(0, .tmp 23), (1, .tmp 24), (2, .tmp 25)] rfl #[(0, .int .i64 sid), (1, .agg (key.map bval).toArray), (2, .agg (g.map bval).toArray)] (by simp [Act.eval, Act.put]) _ (build_cert sid HKL.out HGL.out _) ?_) | (refine zab rfl _ _ _ rfl C (certC sid key g) rfl rfl _ _ HC9.out (by rw [zce HKL.out HGL.out, zce zdd zbi]) (zdx HKL.out HGL.out) (zev _ _ _) ?_; intro w10 hb10 hg10))
      refine bodyPost_ret (zar rfl _ C _ _ _ rfl hb10 Tryz.underlying28 rfl (zdx HKL.out HGL.out)) rfl ?_
      exact ⟨by rw [HQ.out.1, HQ.out.2.1, HQ.out.2.2.1, HQ.out.2.2.2, HGE.out]; rfl, zad (HE.out.trans HN9.out) hg10 HLC.out⟩
     ·refine zan (by rfl) ?_
      refine zax (some 8) _ (z64.map bval) rfl rfl crt_zero_sig ?_
      obtain ⟨m3, hm3⟩ : ∃ wNew, wNew = World.alloc m2 (.cells (z64.map bval).toArray 26) := ⟨_, rfl⟩
      rw [← hm3]
      have b3 : Ext m2 m3 := by rw [hm3]; exact Ext.alloc _ _
      obtain ⟨g3, hg3⟩ : ∃ gNew, gNew = (m2).heap.size := ⟨_, rfl⟩
      rw [← hg3]
      have z3 : Blk m3 g3 (z64.map bval) 26 := by rw [hm3, hg3]; exact Blk.made _ _ _
      have l3 : (w3).heap.size ≤ g3 := by rw [hg3]; exact N2.size
      clear hm3 hg3
      have r1 := r1.below b3
      have r2 := r2.below b3
      have N3 : Ext w3 m3 := N2.trans b3
      refine hK.out _ _ N3 (fun hHeld => ?_)
      clear hK K
      try simp only [Act.put, nrm]
      refine rdy 5 rfl fun K hK => ?_
      go_simp
      refine (HSG.out _ m3 N3 (rowB2 r2 r1 ((zcm (n := 32) H2.out (by rw [List.length_map]; exact HKL.out) (by unfold maxLen; omega)).below N3))).mono ?_
      rintro e m4 ⟨rfl, b4⟩
      have r1 := r1.below b4
      have r2 := r2.below b4
      have z3 := z3.below b4
      have N4 : Ext w3 m4 := N3.trans b4
      refine hK.out _ _ N4 (fun hHeld => ?_)
      clear hK K
      try simp only [Act.put, nrm]
      refine rdy 7 rfl fun K hK => ?_
      refine zan (by rfl) ?_
      refine zak _ _ _ rfl g3 ((g).map bval) rfl rfl _ _ z3 (by rw [List.length_map, HGL.out]; rfl) (zct (HGL.out)) (zaj _) ?_
      intro m5 hb5 hg5
      have N5 : Ext w3 m5 := zad N4 hg5 l3
      refine hK.out _ _ N5 (fun hHeld => ?_)
      clear hK K
      try simp only [Act.put, nrm]
      refine dne ?_
      have HS9 := jh hb5
      have HN9 := jh N5
      have HB9 := jh (zaa H2.out N5)
      have HC9 := jh (zaa HC0.out N5)
      generalize g3 = S9 at HS9 ⊢
      generalize m5 = w9 at HS9 HN9 HB9 HC9 ⊢
      go_wp2_with (first | (refine zae rfl _ _ rfl B rfl _ _ _ _ HB9.out Tryz.underlying23 HIK.out ?_) | (refine zae rfl _ _ rfl S9 rfl _ _ _ _ HS9.out Tryz.underlying26 HIS.out ?_) | (refine zaw rfl 28 #[(0, .tmp 23), (1, .tmp 24), (2, .tmp 25)] rfl #[(0, .int .i64 sid), (1, .agg (key.map bval).toArray), (2, .agg (g.map bval).toArray)] (by simp [Act.eval, Act.put]) _ (build_cert sid HKL.out HGL.out _) ?_) | (refine zab rfl _ _ _ rfl C (certC sid key g) rfl rfl _ _ HC9.out (by rw [zce HKL.out HGL.out, zce zdd zbi]) (zdx HKL.out HGL.out) (zev _ _ _) ?_; intro w10 hb10 hg10))
      refine bodyPost_ret (zar rfl _ C _ _ _ rfl hb10 Tryz.underlying28 rfl (zdx HKL.out HGL.out)) rfl ?_
      exact ⟨by rw [HQ.out.1, HQ.out.2.1, HQ.out.2.2.1, HQ.out.2.2.2, HGE.out]; rfl, zad (HE.out.trans HN9.out) hg10 HLC.out⟩
    ·refine zan (by rfl) ?_
     refine zax (some 8) _ (z64.map bval) rfl rfl crt_zero_sig ?_
     obtain ⟨m2, hm2⟩ : ∃ wNew, wNew = World.alloc m1 (.cells (z64.map bval).toArray 26) := ⟨_, rfl⟩
     rw [← hm2]
     have b2 : Ext m1 m2 := by rw [hm2]; exact Ext.alloc _ _
     obtain ⟨g2, hg2⟩ : ∃ gNew, gNew = (m1).heap.size := ⟨_, rfl⟩
     rw [← hg2]
     have z2 : Blk m2 g2 (z64.map bval) 26 := by rw [hm2, hg2]; exact Blk.made _ _ _
     have l2 : (w3).heap.size ≤ g2 := by rw [hg2]; exact N1.size
     clear hm2 hg2
     have r1 := r1.below b2
     have N2 : Ext w3 m2 := N1.trans b2
     refine hK.out _ _ N2 (fun hHeld => ?_)
     clear hK K
     try simp only [Act.put, nrm]
     refine rdy 4 rfl fun K hK => ?_
     refine zan (by rfl) ?_
     refine zbv (some 21) _ _ _ _ rfl rfl #[.slice a1 12 c1, .slice (some ⟨B, 0, none⟩) 32 32] iq (.slice none 0 0) Tryz.underlying88 HQ0.out HQ1.out (by rw [HQ2.out]; decide) (by rw [HQ2.out]; decide) (by rw [HQ2.out]; kernel_rfl) ?_
     obtain ⟨m3, hm3⟩ : ∃ wNew, wNew = World.alloc m2 (.cells #[.slice a1 12 c1, .slice (some ⟨B, 0, none⟩) 32 32] 46) := ⟨_, rfl⟩
     rw [← hm3]
     have b3 : Ext m2 m3 := by rw [hm3]; exact Ext.alloc _ _
     obtain ⟨g3, hg3⟩ : ∃ gNew, gNew = (m2).heap.size := ⟨_, rfl⟩
     rw [← hg3]
     have r1 := r1.below b3
     have z2 := z2.below b3
     have r3 : Row1 m3 (.slice (some ⟨g3, 0, none⟩) 2 2) [.slice a1 12 c1, .slice (some ⟨B, 0, none⟩) 32 32] := by rw [hm3, hg3]; exact Row1.made _ _ _ _ _ _ rfl rfl rfl (by unfold maxLen; omega)
     clear hm3 hg3
     have N3 : Ext w3 m3 := N2.trans b3
     refine hK.out _ _ N3 (fun hHeld => ?_)
     clear hK K
     try simp only [Act.put, nrm]
     refine rdy 5 rfl fun K hK => ?_
     go_simp
     refine (HSG.out _ m3 N3 (rowB2 r3 r1 ((zcm (n := 32) H2.out (by rw [List.length_map]; exact HKL.out) (by unfold maxLen; omega)).below N3))).mono ?_
     rintro e m4 ⟨rfl, b4⟩
     have r1 := r1.below b4
     have r3 := r3.below b4
     have z2 := z2.below b4
     have N4 : Ext w3 m4 := N3.trans b4
     refine hK.out _ _ N4 (fun hHeld => ?_)
     clear hK K
     try simp only [Act.put, nrm]
     refine rdy 7 rfl fun K hK => ?_
     refine zan (by rfl) ?_
     refine zak _ _ _ rfl g2 ((g).map bval) rfl rfl _ _ z2 (by rw [List.length_map, HGL.out]; rfl) (zct (HGL.out)) (zaj _) ?_
     intro m5 hb5 hg5
     have N5 : Ext w3 m5 := zad N4 hg5 l2
     refine hK.out _ _ N5 (fun hHeld => ?_)
     clear hK K
     try simp only [Act.put, nrm]
     refine dne ?_
     have HS9 := jh hb5
     have HN9 := jh N5
     have HB9 := jh (zaa H2.out N5)
     have HC9 := jh (zaa HC0.out N5)
     generalize g2 = S9 at HS9 ⊢
     generalize m5 = w9 at HS9 HN9 HB9 HC9 ⊢
     go_wp2_with (first | (refine zae rfl _ _ rfl B rfl _ _ _ _ HB9.out Tryz.underlying23 HIK.out ?_) | (refine zae rfl _ _ rfl S9 rfl _ _ _ _ HS9.out Tryz.underlying26 HIS.out ?_) | (refine zaw rfl 28 #[(0, .tmp 23), (1, .tmp 24), (2, .tmp 25)] rfl #[(0, .int .i64 sid), (1, .agg (key.map bval).toArray), (2, .agg (g.map bval).toArray)] (by simp [Act.eval, Act.put]) _ (build_cert sid HKL.out HGL.out _) ?_) | (refine zab rfl _ _ _ rfl C (certC sid key g) rfl rfl _ _ HC9.out (by rw [zce HKL.out HGL.out, zce zdd zbi]) (zdx HKL.out HGL.out) (zev _ _ _) ?_; intro w10 hb10 hg10))
     refine bodyPost_ret (zar rfl _ C _ _ _ rfl hb10 Tryz.underlying28 rfl (zdx HKL.out HGL.out)) rfl ?_
     exact ⟨by rw [HQ.out.1, HQ.out.2.1, HQ.out.2.2.1, HQ.out.2.2.2, HGE.out]; rfl, zad (HE.out.trans HN9.out) hg10 HLC.out⟩
   ·refine zan (by rfl) ?_
    refine zax (some 8) _ (z64.map bval) rfl rfl crt_zero_sig ?_
    obtain ⟨m1, hm1⟩ : ∃ wNew, wNew = World.alloc w3.drew (.cells (z64.map bval).toArray 26) := ⟨_, rfl⟩
    rw [← hm1]
    have b1 : Ext w3.drew m1 := by rw [hm1]; exact Ext.alloc _ _
    obtain ⟨g1, hg1⟩ : ∃ gNew, gNew = (w3.drew).heap.size := ⟨_, rfl⟩
    rw [← hg1]
    have z1 : Blk m1 g1 (z64.map bval) 26 := by rw [hm1, hg1]; exact Blk.made _ _ _
    have l1 : (w3).heap.size ≤ g1 := by rw [hg1]; exact B0.size
    clear hm1 hg1
    have N1 : Ext w3 m1 := B0.trans b1
    refine hK.out _ _ N1 (fun hHeld => ?_)
    clear hK K
    try simp only [Act.put, nrm]
    refine rdy 2 rfl fun K hK => ?_
    go_simp
    refine (cmarked_any ([80, 67, 67, 84] : List UInt8) sid m1 rfl).mono ?_
    rintro e m2 ⟨x2, rfl, o2, b2⟩
    have z1 := z1.below b2
    have r2 : Row1 m2 x2 ((([80, 67, 67, 84] : List UInt8) ++ be8s [sid]).map bval) := Row1.of_own o2
    obtain ⟨a2, c2, hx2, _⟩ := id r2
    rw [show ((([80, 67, 67, 84] : List UInt8) ++ be8s [sid]).map bval).length = 12 from rfl] at hx2
    subst hx2
    have N2 : Ext w3 m2 := N1.trans b2
    refine hK.out _ _ N2 (fun hHeld => ?_)
    clear hK K
    try simp only [Act.put, nrm]
    refine rdy 4 rfl fun K hK => ?_
    refine zan (by rfl) ?_
    refine zbv (some 21) _ _ _ _ rfl rfl #[.slice a2 12 c2, .slice (some ⟨B, 0, none⟩) 32 32] iq (.slice none 0 0) Tryz.underlying88 HQ0.out HQ1.out (by rw [HQ2.out]; decide) (by rw [HQ2.out]; decide) (by rw [HQ2.out]; kernel_rfl) ?_
    obtain ⟨m3, hm3⟩ : ∃ wNew, wNew = World.alloc m2 (.cells #[.slice a2 12 c2, .slice (some ⟨B, 0, none⟩) 32 32] 46) := ⟨_, rfl⟩
    rw [← hm3]
    have b3 : Ext m2 m3 := by rw [hm3]; exact Ext.alloc _ _
    obtain ⟨g3, hg3⟩ : ∃ gNew, gNew = (m2).heap.size := ⟨_, rfl⟩
    rw [← hg3]
    have r2 := r2.below b3
    have z1 := z1.below b3
    have r3 : Row1 m3 (.slice (some ⟨g3, 0, none⟩) 2 2) [.slice a2 12 c2, .slice (some ⟨B, 0, none⟩) 32 32] := by rw [hm3, hg3]; exact Row1.made _ _ _ _ _ _ rfl rfl rfl (by unfold maxLen; omega)
    clear hm3 hg3
    have N3 : Ext w3 m3 := N2.trans b3
    refine hK.out _ _ N3 (fun hHeld => ?_)
    clear hK K
    try simp only [Act.put, nrm]
    refine rdy 5 rfl fun K hK => ?_
    go_simp
    refine (HSG.out _ m3 N3 (rowB2 r3 r2 ((zcm (n := 32) H2.out (by rw [List.length_map]; exact HKL.out) (by unfold maxLen; omega)).below N3))).mono ?_
    rintro e m4 ⟨rfl, b4⟩
    have r2 := r2.below b4
    have r3 := r3.below b4
    have z1 := z1.below b4
    have N4 : Ext w3 m4 := N3.trans b4
    refine hK.out _ _ N4 (fun hHeld => ?_)
    clear hK K
    try simp only [Act.put, nrm]
    refine rdy 7 rfl fun K hK => ?_
    refine zan (by rfl) ?_
    refine zak _ _ _ rfl g1 ((g).map bval) rfl rfl _ _ z1 (by rw [List.length_map, HGL.out]; rfl) (zct (HGL.out)) (zaj _) ?_
    intro m5 hb5 hg5
    have N5 : Ext w3 m5 := zad N4 hg5 l1
    refine hK.out _ _ N5 (fun hHeld => ?_)
    clear hK K
    try simp only [Act.put, nrm]
    refine dne ?_
    have HS9 := jh hb5
    have HN9 := jh N5
    have HB9 := jh (zaa H2.out N5)
    have HC9 := jh (zaa HC0.out N5)
    generalize g1 = S9 at HS9 ⊢
    generalize m5 = w9 at HS9 HN9 HB9 HC9 ⊢
    go_wp2_with (first | (refine zae rfl _ _ rfl B rfl _ _ _ _ HB9.out Tryz.underlying23 HIK.out ?_) | (refine zae rfl _ _ rfl S9 rfl _ _ _ _ HS9.out Tryz.underlying26 HIS.out ?_) | (refine zaw rfl 28 #[(0, .tmp 23), (1, .tmp 24), (2, .tmp 25)] rfl #[(0, .int .i64 sid), (1, .agg (key.map bval).toArray), (2, .agg (g.map bval).toArray)] (by simp [Act.eval, Act.put]) _ (build_cert sid HKL.out HGL.out _) ?_) | (refine zab rfl _ _ _ rfl C (certC sid key g) rfl rfl _ _ HC9.out (by rw [zce HKL.out HGL.out, zce zdd zbi]) (zdx HKL.out HGL.out) (zev _ _ _) ?_; intro w10 hb10 hg10))
    refine bodyPost_ret (zar rfl _ C _ _ _ rfl hb10 Tryz.underlying28 rfl (zdx HKL.out HGL.out)) rfl ?_
    exact ⟨by rw [HQ.out.1, HQ.out.2.1, HQ.out.2.2.1, HQ.out.2.2.2, HGE.out]; rfl, zad (HE.out.trans HN9.out) hg10 HLC.out⟩
theorem cStop_any (root : List UInt8) (sid : Int) (w : World) (hr : root.length = 32) (hG : CMG w) :
  Calls Tryz.prog 19 #[.agg (root.map bval).toArray, .int .i64 sid] w fun e w' => e = .returned (.tuple #[.agg (stopC (stpI sid) (stpG root sid)).toArray, .int .i64 (stpE sid)]) ∧ Below w.heap.size w w' := by
 obtain ⟨i0, hi, hz0, hz1, hz2⟩ := info_parts Tryz.info5
 obtain ⟨iq, hq0, hq1, hq2⟩ := info_two (P := Tryz.prog) (t := 46) (z := .slice none 0 0) (n := 1) (by kernel_rfl)
 have HI0 := jh hi
 have HZ0 := jh hz0
 have HZ1 := jh hz1
 have HZ2 := jh hz2
 have HQ0 := jh hq0
 have HQ1 := jh hq1
 have HQ2 := jh hq2
 clear hi hz0 hz1 hz2 hq0 hq1 hq2
 have HRL := jh hr
 have HIR := jh (zaf hr)
 have HG := jh hG
 have HB := jh (boxes2 w (root.map bval) (stopC 0 z64) 23 39)
 have HZS := jh (zcj (id := 0) zbi)
 clear hr hG
 go_enter Tryz.func19, Tryz.ntmps19
 go_upto_region 1 with (fail)
 obtain ⟨H1, H3, HE⟩ := HB.out
 change Code.wp _ _ _ _ ((w.alloc (.cells (root.map bval).toArray 23)).alloc (.cells (stopC 0 z64).toArray 39))
 generalize (w.alloc (.cells (root.map bval).toArray 23)).alloc (.cells (stopC 0 z64).toArray 39) = wa at *
 have HE : Hid (Ext w wa) := jh HE
 obtain ⟨C, hC⟩ : ∃ C, C = w.heap.size + 1 := ⟨_, rfl⟩
 have HLC : Hid (w.heap.size ≤ C) := jh (by omega)
 rw [← hC] at H3 ⊢
 obtain ⟨A, hA⟩ : ∃ A, A = w.heap.size := ⟨_, rfl⟩
 have HO : Hid (A < C) := jh (by omega)
 rw [← hA] at H1 ⊢
 have H1 := jh H1
 have HC0 := jh H3
 clear hA hC HB H3
 go_wp2_with fail
 refine (cid_any sid wa).mono ?_
 rintro e w' ⟨rfl, rfl⟩
 cases hsm : smallB sid with
 | false =>
  have HQ : Hid (stpE sid = 1 ∧ stpI sid = 0 ∧ stpG root sid = z64) := jh (by unfold stpE stpI stpG; rw [hsm]; exact ⟨rfl, rfl, rfl⟩)
  clear hsm
  go_wp2_with (first | (refine zaw rfl _ _ rfl _ rfl _ (zei _) ?_) | (refine zab rfl _ _ _ rfl C (stopC 0 z64) rfl rfl _ _ HC0.out rfl HZS.out (zcd _ _) ?_; intro w9 hb9 hg9))
  refine bodyPost_ret (zar rfl _ C _ _ _ rfl hb9 Tryz.underlying39 rfl HZS.out) rfl ?_
  exact ⟨by rw [HQ.out.1, HQ.out.2.1, HQ.out.2.2]; rfl, zad HE.out hg9 HLC.out⟩
 | true =>
  have HQ : Hid (stpE sid = 0 ∧ stpI sid = sid ∧ stpG root sid = stopG root sid) := jh (by unfold stpE stpI stpG; rw [hsm]; exact ⟨rfl, rfl, rfl⟩)
  clear hsm
  obtain ⟨g, hg⟩ : ∃ g, g = edSign root (stopT sid) := ⟨_, rfl⟩
  have HGE : Hid (stopG root sid = g) := jh hg.symm
  have HGL : Hid (g.length = 64) := jh (by rw [hg]; exact zeo _ _)
  have HSG := jh (fun (x : Value) (wx : World) (hx : Ext wa wx) (hr : RowB wx x [([80, 67, 83, 84] : List UInt8) ++ be8s [sid]]) => by
   have hGw := HG.out.ext (HE.out.trans hx)
   have hf : [([80, 67, 83, 84] : List UInt8) ++ be8s [sid]].flatten = stopT sid := by simp [stopT]
   have h := CSign_num root x _ wx HRL.out hr (by rw [hf, stopT_length]; decide) (by simp) hGw.1 hGw.2.1 hGw.2.2
   rw [hf, ← hg] at h
   exact h)
  clear hg
  go_upto_region 3 with (fail)
  have B0 : Ext wa wa.drew := Ext.drew _
  refine wp_region_held_drew (S := fun w' => Far (C) wa w') (by kernel_rfl) (zbx B0) (fun hHeld => ?_)
  refine tke 0 (.int .i64 sid) rfl (zcb _ (.int .i64 sid) (by rfl) rfl rfl) hHeld ?_
  simp only [Act.put, nrm]
  refine tke 1 (.agg ((root).map bval).toArray) rfl (yieldsIf_load_mid (by rfl) _ _ rfl A 0 rfl _ _ (fun w h => zbr H1.out (by have := HO.out; omega) h) Tryz.underlying23 rfl HIR.out) hHeld ?_
  simp only [Act.put, nrm]
  refine tke 2 (.int .i64 sid) rfl (zcb _ (.int .i64 sid) (by rfl) rfl rfl) hHeld ?_
  simp only [Act.put, nrm]
  refine rdy 3 rfl fun K hK => ?_
  go_simp
  refine (cmarked_any ([80, 67, 83, 84] : List UInt8) sid wa.drew rfl).mono ?_
  rintro e m1 ⟨x1, rfl, o1, b1⟩
  have r1 : Row1 m1 x1 ((([80, 67, 83, 84] : List UInt8) ++ be8s [sid]).map bval) := Row1.of_own o1
  obtain ⟨a1, c1, hx1, _⟩ := id r1
  rw [show ((([80, 67, 83, 84] : List UInt8) ++ be8s [sid]).map bval).length = 12 from rfl] at hx1
  subst hx1
  have N1 : Ext wa m1 := B0.trans b1
  refine hK.out _ _ (zbx N1) (fun hHeld => ?_)
  clear hK K
  try simp only [Act.put, nrm]
  refine rdy 4 rfl fun K hK => ?_
  refine zan (by rfl) ?_
  refine zbv (some 14) _ _ _ _ rfl rfl #[.slice a1 12 c1] iq (.slice none 0 0) Tryz.underlying88 HQ0.out HQ1.out (by rw [HQ2.out]; decide) (by rw [HQ2.out]; decide) (by rw [HQ2.out]; kernel_rfl) ?_
  obtain ⟨m2, hm2⟩ : ∃ wNew, wNew = World.alloc m1 (.cells #[.slice a1 12 c1] 46) := ⟨_, rfl⟩
  rw [← hm2]
  have b2 : Ext m1 m2 := by rw [hm2]; exact Ext.alloc _ _
  obtain ⟨g2, hg2⟩ : ∃ gNew, gNew = (m1).heap.size := ⟨_, rfl⟩
  rw [← hg2]
  have r1 := r1.below b2
  have r2 : Row1 m2 (.slice (some ⟨g2, 0, none⟩) 1 1) [.slice a1 12 c1] := by rw [hm2, hg2]; exact Row1.made _ _ _ _ _ _ rfl rfl rfl (by unfold maxLen; omega)
  clear hm2 hg2
  have N2 : Ext wa m2 := N1.trans b2
  refine hK.out _ _ (zbx N2) (fun hHeld => ?_)
  clear hK K
  try simp only [Act.put, nrm]
  refine rdy 5 rfl fun K hK => ?_
  go_simp
  refine (HSG.out _ m2 N2 (rowB1 r2 r1)).mono ?_
  rintro e m3 ⟨rfl, b3⟩
  have r1 := r1.below b3
  have r2 := r2.below b3
  have N3 : Ext wa m3 := N2.trans b3
  refine hK.out _ _ (zbx N3) (fun hHeld => ?_)
  clear hK K
  try simp only [Act.put, nrm]
  refine tke 6 (.agg (stopC sid g).toArray) rfl (yi_build _ _ _ _ (build_stop sid HGL.out) (by rfl) rfl (by simp [Act.eval])) hHeld ?_
  simp only [Act.put, nrm]
  refine rdy 7 rfl fun K hK => ?_
  refine zan (by rfl) ?_
  refine zak _ _ _ rfl C (stopC sid g) rfl rfl _ _ (zaa HC0.out N3) (by rw [zbt HGL.out, zbt zbi]) (zcj HGL.out) (zcd _ _) ?_
  intro m4 hb4 hg4
  refine hK.out _ _ (zdk N3 hg4) (fun hHeld => ?_)
  clear hK K
  try simp only [Act.put, nrm]
  refine rdy 8 rfl fun K hK => ?_
  go_simp
  refine hK.out _ _ (zdk N3 hg4) (fun hHeld => ?_)
  clear hK K
  try simp only [Act.put, nrm]
  refine dne ?_
  have hfin := hb4
  have hNN := zad (HE.out.trans N3) hg4 HLC.out
  generalize m4 = w11 at hfin hNN ⊢
  go_wp2_with fail
  refine bodyPost_ret (zar rfl _ C _ _ _ rfl hfin Tryz.underlying39 rfl (zcj HGL.out)) rfl ?_
  exact ⟨by rw [HQ.out.1, HQ.out.2.1, HQ.out.2.2, HGE.out]; rfl, hNN⟩
theorem cCheck_any (pub key sig : List UInt8) (sid : Int) (w : World) (hp : pub.length = 32) (hk : key.length = 32) (hs : sig.length = 64) (hG : CMG w) :
  Calls Tryz.prog 14 #[.agg (pub.map bval).toArray, .agg (certC sid key sig).toArray] w fun e w' => e = .returned (.bool (certV pub sid key sig)) ∧ Below w.heap.size w w' := by
 obtain ⟨i0, hi, hz0, hz1, hz2⟩ := info_parts Tryz.info5
 obtain ⟨iq, hq0, hq1, hq2⟩ := info_two (P := Tryz.prog) (t := 46) (z := .slice none 0 0) (n := 1) (by kernel_rfl)
 have HI0 := jh hi
 have HZ0 := jh hz0
 have HZ1 := jh hz1
 have HZ2 := jh hz2
 have HQ0 := jh hq0
 have HQ1 := jh hq1
 have HQ2 := jh hq2
 clear hi hz0 hz1 hz2 hq0 hq1 hq2
 have HRL := jh hp
 have HKL := jh hk
 have HSL := jh hs
 have HIR := jh (zaf hp)
 have HG := jh hG
 have HB := jh (boxes2 w (pub.map bval) (certC sid key sig) 23 28)
 clear hp hk hs hG
 go_enter Tryz.func14, Tryz.ntmps14
 go_upto_region 1 with (fail)
 obtain ⟨H1, H2, HE⟩ := HB.out
 change Code.wp _ _ _ _ ((w.alloc (.cells (pub.map bval).toArray 23)).alloc (.cells (certC sid key sig).toArray 28))
 generalize (w.alloc (.cells (pub.map bval).toArray 23)).alloc (.cells (certC sid key sig).toArray 28) = wa at *
 have HE : Hid (Ext w wa) := jh HE
 obtain ⟨B, hB⟩ : ∃ B, B = w.heap.size + 1 := ⟨_, rfl⟩
 rw [← hB] at H2 ⊢
 obtain ⟨A, hA⟩ : ∃ A, A = w.heap.size := ⟨_, rfl⟩
 rw [← hA] at H1 ⊢
 have H1 := jh H1
 obtain ⟨hp1, hp2, hp3⟩ := cert_parts H2 HKL.out
 have HP1 := jh hp1
 have HRK := jh (row_rng (n := 32) hp2 H2.lt (by rw [List.length_map, HKL.out]) (by unfold maxLen; omega))
 have HP3 := jh hp3
 clear hA hB HB H2 hp1 hp2 hp3
 cases hsm : smallB sid with
 | false =>
  have HSB := jh hsm
  have HQ : Hid (certV pub sid key sig = false) := jh (by unfold certV; rw [hsm]; rfl)
  clear hsm
  have B0 : Ext wa wa.drew := Ext.drew _
  refine wp_region_held_drew (S := fun w' => Ext wa w') (by kernel_rfl) B0 (fun hHeld => ?_)
  refine tke 0 (.pointer (some ⟨B, 0, none⟩)) rfl (zbl (.pointer (some ⟨B, 0, none⟩)) (by rfl) (fun w _ => by go_simp)) hHeld ?_
  simp only [Act.put, nrm]
  refine tke 1 (.int .i64 sid) rfl (zbl (.int .i64 sid) (by rfl) (fun w h => by have hc := (Below.cell h (World.block_lt_of_cell? wa _ HP1.out)).trans HP1.out; go_simp)) hHeld ?_
  simp only [Act.put, nrm]
  refine rdy 2 rfl fun K hK => ?_
  go_simp
  refine (cid_b sid false wa.drew HSB.out).mono ?_
  rintro e m1 ⟨rfl, b1⟩
  have N1 : Ext wa m1 := B0.trans b1
  refine hK.out _ _ N1 (fun hHeld => ?_)
  clear hK K
  try simp only [Act.put, nrm]
  refine tke 3 (.bool false) rfl (zcb _ (.bool false) (by rfl) rfl rfl) hHeld ?_
  simp only [Act.put, nrm]
  refine tke 4 undef rfl (zea (by rfl)) hHeld ?_
  simp only [Act.put, nrm]
  refine tke 5 undef rfl (zea (by rfl)) hHeld ?_
  simp only [Act.put, nrm]
  refine tke 6 undef rfl (zea (by rfl)) hHeld ?_
  simp only [Act.put, nrm]
  refine tke 7 undef rfl (zea (by rfl)) hHeld ?_
  simp only [Act.put, nrm]
  refine tke 8 undef rfl (zea (by rfl)) hHeld ?_
  simp only [Act.put, nrm]
  refine tke 9 undef rfl (zea (by rfl)) hHeld ?_
  simp only [Act.put, nrm]
  refine tke 10 undef rfl (zea (by rfl)) hHeld ?_
  simp only [Act.put, nrm]
  refine tke 11 undef rfl (zea (by rfl)) hHeld ?_
  simp only [Act.put, nrm]
  refine tke 12 undef rfl (zea (by rfl)) hHeld ?_
  simp only [Act.put, nrm]
  refine tke 13 undef rfl (zea (by rfl)) hHeld ?_
  simp only [Act.put, nrm]
  refine tke 14 (.bool false) rfl (yi_pick _ _ _ false _ (by rfl) rfl rfl rfl) hHeld ?_
  simp only [Act.put, nrm]
  refine rdy 15 rfl fun K hK => ?_
  go_simp
  refine hK.out _ _ N1 (fun hHeld => ?_)
  clear hK K
  try simp only [Act.put, nrm]
  refine dne ?_
  have HN := jh (HE.out.trans N1)
  go_wp2_with fail
  go_ret
  exact ⟨by rw [HQ.out]; rfl, HN.out⟩
 | true =>
  have HSB := jh hsm
  obtain ⟨q, hq⟩ : ∃ q, q = verB pub sig (certT sid key) := ⟨_, rfl⟩
  have HQ : Hid (certV pub sid key sig = q) := jh (by unfold certV; rw [hsm, hq]; rfl)
  have HVF := jh (fun (x : Value) (wx : World) (hx : Ext wa wx) (hr : RowB wx x [([80, 67, 67, 84] : List UInt8) ++ be8s [sid], key]) => by
   have hGw := HG.out.ext (HE.out.trans hx)
   have hf : ([([80, 67, 67, 84] : List UInt8) ++ be8s [sid], key]).flatten = certT sid key := by simp [certT]
   have h := CVer_num pub sig x _ wx HRL.out HSL.out hr (by rw [hf, certT_length, HKL.out]; decide) (by simp) hGw.1 hGw.2.1 hGw.2.2
   rw [hf, ← hq] at h
   exact h)
  clear hq hsm
  have B0 : Ext wa wa.drew := Ext.drew _
  refine wp_region_held_drew (S := fun w' => Ext wa w') (by kernel_rfl) B0 (fun hHeld => ?_)
  refine tke 0 (.pointer (some ⟨B, 0, none⟩)) rfl (zbl (.pointer (some ⟨B, 0, none⟩)) (by rfl) (fun w _ => by go_simp)) hHeld ?_
  simp only [Act.put, nrm]
  refine tke 1 (.int .i64 sid) rfl (zbl (.int .i64 sid) (by rfl) (fun w h => by have hc := (Below.cell h (World.block_lt_of_cell? wa _ HP1.out)).trans HP1.out; go_simp)) hHeld ?_
  simp only [Act.put, nrm]
  refine rdy 2 rfl fun K hK => ?_
  go_simp
  refine (cid_b sid true wa.drew HSB.out).mono ?_
  rintro e m1 ⟨rfl, b1⟩
  have N1 : Ext wa m1 := B0.trans b1
  refine hK.out _ _ N1 (fun hHeld => ?_)
  clear hK K
  try simp only [Act.put, nrm]
  refine tke 3 (.bool true) rfl (zcb _ (.bool true) (by rfl) rfl rfl) hHeld ?_
  simp only [Act.put, nrm]
  refine tke 4 (.agg ((pub).map bval).toArray) rfl (yieldsIf_load_mid (by rfl) _ _ rfl A 0 rfl _ _ (fun w h => zbe H1.out h) Tryz.underlying23 rfl HIR.out) hHeld ?_
  simp only [Act.put, nrm]
  refine tke 5 (.pointer (some ⟨B, 33, none⟩)) rfl (zbl (.pointer (some ⟨B, 33, none⟩)) (by rfl) (fun w _ => by go_simp)) hHeld ?_
  simp only [Act.put, nrm]
  refine tke 6 (.agg ((sig).map bval).toArray) rfl (yieldsIf_load_mid (by rfl) _ _ rfl B 33 rfl _ _ (fun w h => rng_ext HP3.out h) Tryz.underlying26 rfl (zct HSL.out)) hHeld ?_
  simp only [Act.put, nrm]
  refine tke 7 (.pointer (some ⟨B, 0, none⟩)) rfl (zbl (.pointer (some ⟨B, 0, none⟩)) (by rfl) (fun w _ => by go_simp)) hHeld ?_
  simp only [Act.put, nrm]
  refine tke 8 (.int .i64 sid) rfl (zbl (.int .i64 sid) (by rfl) (fun w h => by have hc := (Below.cell h (World.block_lt_of_cell? wa _ HP1.out)).trans HP1.out; go_simp)) hHeld ?_
  simp only [Act.put, nrm]
  refine tke 10 (.pointer (some ⟨B, 1, none⟩)) rfl (zbl (.pointer (some ⟨B, 1, none⟩)) (by rfl) (fun w _ => by go_simp)) hHeld ?_
  simp only [Act.put, nrm]
  refine tke 11 (.slice (some ⟨B, 1, none⟩) 32 32) rfl (zew _ _ _ _ (.pointer (some ⟨B, 1, none⟩)) (.slice (some ⟨B, 1, none⟩) 32 32) none none (by rfl) rfl rfl rfl rfl (fun w => cut_part Tryz.underlying23 Tryz.sizeOf5 (by omega) _ _ w)) hHeld ?_
  simp only [Act.put, nrm]
  refine rdy 9 rfl fun K hK => ?_
  go_simp
  refine (cmarked_any ([80, 67, 67, 84] : List UInt8) sid m1 rfl).mono ?_
  rintro e m2 ⟨x2, rfl, o2, b2⟩
  have r2 : Row1 m2 x2 ((([80, 67, 67, 84] : List UInt8) ++ be8s [sid]).map bval) := Row1.of_own o2
  obtain ⟨a2, c2, hx2, _⟩ := id r2
  rw [show ((([80, 67, 67, 84] : List UInt8) ++ be8s [sid]).map bval).length = 12 from rfl] at hx2
  subst hx2
  have N2 : Ext wa m2 := N1.trans b2
  refine hK.out _ _ N2 (fun hHeld => ?_)
  clear hK K
  try simp only [Act.put, nrm]
  refine rdy 12 rfl fun K hK => ?_
  refine zan (by rfl) ?_
  refine zbv (some 17) _ _ _ _ rfl rfl #[.slice a2 12 c2, .slice (some ⟨B, 1, none⟩) 32 32] iq (.slice none 0 0) Tryz.underlying88 HQ0.out HQ1.out (by rw [HQ2.out]; decide) (by rw [HQ2.out]; decide) (by rw [HQ2.out]; kernel_rfl) ?_
  obtain ⟨m3, hm3⟩ : ∃ wNew, wNew = World.alloc m2 (.cells #[.slice a2 12 c2, .slice (some ⟨B, 1, none⟩) 32 32] 46) := ⟨_, rfl⟩
  rw [← hm3]
  have b3 : Ext m2 m3 := by rw [hm3]; exact Ext.alloc _ _
  obtain ⟨g3, hg3⟩ : ∃ gNew, gNew = (m2).heap.size := ⟨_, rfl⟩
  rw [← hg3]
  have r2 := r2.below b3
  have r3 : Row1 m3 (.slice (some ⟨g3, 0, none⟩) 2 2) [.slice a2 12 c2, .slice (some ⟨B, 1, none⟩) 32 32] := by rw [hm3, hg3]; exact Row1.made _ _ _ _ _ _ rfl rfl rfl (by unfold maxLen; omega)
  clear hm3 hg3
  have N3 : Ext wa m3 := N2.trans b3
  refine hK.out _ _ N3 (fun hHeld => ?_)
  clear hK K
  try simp only [Act.put, nrm]
  refine rdy 13 rfl fun K hK => ?_
  go_simp
  refine (HVF.out _ m3 N3 (rowB2 r3 r2 ((HRK.out).below N3))).mono ?_
  rintro e m4 ⟨rfl, b4⟩
  have r2 := r2.below b4
  have r3 := r3.below b4
  have N4 : Ext wa m4 := N3.trans b4
  refine hK.out _ _ N4 (fun hHeld => ?_)
  clear hK K
  try simp only [Act.put, nrm]
  refine tke 14 (.bool q) rfl (yi_pick _ _ _ true _ (by rfl) rfl rfl rfl) hHeld ?_
  simp only [Act.put, nrm]
  refine rdy 15 rfl fun K hK => ?_
  go_simp
  refine hK.out _ _ N4 (fun hHeld => ?_)
  clear hK K
  try simp only [Act.put, nrm]
  refine dne ?_
  have HN := jh (HE.out.trans N4)
  go_wp2_with fail
  go_ret
  exact ⟨by rw [HQ.out]; rfl, HN.out⟩
theorem cCheckStop_any (pub sig : List UInt8) (sid : Int) (w : World) (hp : pub.length = 32) (hs : sig.length = 64) (hG : CMG w) :
  Calls Tryz.prog 17 #[.agg (pub.map bval).toArray, .agg (stopC sid sig).toArray] w fun e w' => e = .returned (.bool (stopV pub sid sig)) ∧ Below w.heap.size w w' := by
 obtain ⟨i0, hi, hz0, hz1, hz2⟩ := info_parts Tryz.info5
 obtain ⟨iq, hq0, hq1, hq2⟩ := info_two (P := Tryz.prog) (t := 46) (z := .slice none 0 0) (n := 1) (by kernel_rfl)
 have HI0 := jh hi
 have HZ0 := jh hz0
 have HZ1 := jh hz1
 have HZ2 := jh hz2
 have HQ0 := jh hq0
 have HQ1 := jh hq1
 have HQ2 := jh hq2
 clear hi hz0 hz1 hz2 hq0 hq1 hq2
 have HRL := jh hp
 have HSL := jh hs
 have HIR := jh (zaf hp)
 have HG := jh hG
 have HB := jh (boxes2 w (pub.map bval) (stopC sid sig) 23 39)
 clear hp hs hG
 go_enter Tryz.func17, Tryz.ntmps17
 go_upto_region 1 with (fail)
 obtain ⟨H1, H2, HE⟩ := HB.out
 change Code.wp _ _ _ _ ((w.alloc (.cells (pub.map bval).toArray 23)).alloc (.cells (stopC sid sig).toArray 39))
 generalize (w.alloc (.cells (pub.map bval).toArray 23)).alloc (.cells (stopC sid sig).toArray 39) = wa at *
 have HE : Hid (Ext w wa) := jh HE
 obtain ⟨B, hB⟩ : ∃ B, B = w.heap.size + 1 := ⟨_, rfl⟩
 rw [← hB] at H2 ⊢
 obtain ⟨A, hA⟩ : ∃ A, A = w.heap.size := ⟨_, rfl⟩
 rw [← hA] at H1 ⊢
 have H1 := jh H1
 obtain ⟨hp1, hp2⟩ := stop_parts H2
 have HP1 := jh hp1
 have HP2 := jh hp2
 clear hA hB HB H2 hp1 hp2
 cases hsm : smallB sid with
 | false =>
  have HSB := jh hsm
  have HQ : Hid (stopV pub sid sig = false) := jh (by unfold stopV; rw [hsm]; rfl)
  clear hsm
  have B0 : Ext wa wa.drew := Ext.drew _
  refine wp_region_held_drew (S := fun w' => Ext wa w') (by kernel_rfl) B0 (fun hHeld => ?_)
  refine tke 0 (.pointer (some ⟨B, 0, none⟩)) rfl (zbl (.pointer (some ⟨B, 0, none⟩)) (by rfl) (fun w _ => by go_simp)) hHeld ?_
  simp only [Act.put, nrm]
  refine tke 1 (.int .i64 sid) rfl (zbl (.int .i64 sid) (by rfl) (fun w h => by have hc := (Below.cell h (World.block_lt_of_cell? wa _ HP1.out)).trans HP1.out; go_simp)) hHeld ?_
  simp only [Act.put, nrm]
  refine rdy 2 rfl fun K hK => ?_
  go_simp
  refine (cid_b sid false wa.drew HSB.out).mono ?_
  rintro e m1 ⟨rfl, b1⟩
  have N1 : Ext wa m1 := B0.trans b1
  refine hK.out _ _ N1 (fun hHeld => ?_)
  clear hK K
  try simp only [Act.put, nrm]
  refine tke 3 (.bool false) rfl (zcb _ (.bool false) (by rfl) rfl rfl) hHeld ?_
  simp only [Act.put, nrm]
  refine tke 4 undef rfl (zea (by rfl)) hHeld ?_
  simp only [Act.put, nrm]
  refine tke 5 undef rfl (zea (by rfl)) hHeld ?_
  simp only [Act.put, nrm]
  refine tke 6 undef rfl (zea (by rfl)) hHeld ?_
  simp only [Act.put, nrm]
  refine tke 7 undef rfl (zea (by rfl)) hHeld ?_
  simp only [Act.put, nrm]
  refine tke 8 undef rfl (zea (by rfl)) hHeld ?_
  simp only [Act.put, nrm]
  refine tke 9 undef rfl (zea (by rfl)) hHeld ?_
  simp only [Act.put, nrm]
  refine tke 10 undef rfl (zea (by rfl)) hHeld ?_
  simp only [Act.put, nrm]
  refine tke 11 undef rfl (zea (by rfl)) hHeld ?_
  simp only [Act.put, nrm]
  refine tke 12 (.bool false) rfl (yi_pick _ _ _ false _ (by rfl) rfl rfl rfl) hHeld ?_
  simp only [Act.put, nrm]
  refine rdy 13 rfl fun K hK => ?_
  go_simp
  refine hK.out _ _ N1 (fun hHeld => ?_)
  clear hK K
  try simp only [Act.put, nrm]
  refine dne ?_
  have HN := jh (HE.out.trans N1)
  go_wp2_with fail
  go_ret
  exact ⟨by rw [HQ.out]; rfl, HN.out⟩
 | true =>
  have HSB := jh hsm
  obtain ⟨q, hq⟩ : ∃ q, q = verB pub sig (stopT sid) := ⟨_, rfl⟩
  have HQ : Hid (stopV pub sid sig = q) := jh (by unfold stopV; rw [hsm, hq]; rfl)
  have HVF := jh (fun (x : Value) (wx : World) (hx : Ext wa wx) (hr : RowB wx x [([80, 67, 83, 84] : List UInt8) ++ be8s [sid]]) => by
   have hGw := HG.out.ext (HE.out.trans hx)
   have hf : ([([80, 67, 83, 84] : List UInt8) ++ be8s [sid]]).flatten = stopT sid := by simp [stopT]
   have h := CVer_num pub sig x _ wx HRL.out HSL.out hr (by rw [hf, stopT_length]; decide) (by simp) hGw.1 hGw.2.1 hGw.2.2
   rw [hf, ← hq] at h
   exact h)
  clear hq hsm
  have B0 : Ext wa wa.drew := Ext.drew _
  refine wp_region_held_drew (S := fun w' => Ext wa w') (by kernel_rfl) B0 (fun hHeld => ?_)
  refine tke 0 (.pointer (some ⟨B, 0, none⟩)) rfl (zbl (.pointer (some ⟨B, 0, none⟩)) (by rfl) (fun w _ => by go_simp)) hHeld ?_
  simp only [Act.put, nrm]
  refine tke 1 (.int .i64 sid) rfl (zbl (.int .i64 sid) (by rfl) (fun w h => by have hc := (Below.cell h (World.block_lt_of_cell? wa _ HP1.out)).trans HP1.out; go_simp)) hHeld ?_
  simp only [Act.put, nrm]
  refine rdy 2 rfl fun K hK => ?_
  go_simp
  refine (cid_b sid true wa.drew HSB.out).mono ?_
  rintro e m1 ⟨rfl, b1⟩
  have N1 : Ext wa m1 := B0.trans b1
  refine hK.out _ _ N1 (fun hHeld => ?_)
  clear hK K
  try simp only [Act.put, nrm]
  refine tke 3 (.bool true) rfl (zcb _ (.bool true) (by rfl) rfl rfl) hHeld ?_
  simp only [Act.put, nrm]
  refine tke 4 (.agg ((pub).map bval).toArray) rfl (yieldsIf_load_mid (by rfl) _ _ rfl A 0 rfl _ _ (fun w h => zbe H1.out h) Tryz.underlying23 rfl HIR.out) hHeld ?_
  simp only [Act.put, nrm]
  refine tke 5 (.pointer (some ⟨B, 1, none⟩)) rfl (zbl (.pointer (some ⟨B, 1, none⟩)) (by rfl) (fun w _ => by go_simp)) hHeld ?_
  simp only [Act.put, nrm]
  refine tke 6 (.agg ((sig).map bval).toArray) rfl (yieldsIf_load_mid (by rfl) _ _ rfl B 1 rfl _ _ (fun w h => rng_ext HP2.out h) Tryz.underlying26 rfl (zct HSL.out)) hHeld ?_
  simp only [Act.put, nrm]
  refine tke 7 (.pointer (some ⟨B, 0, none⟩)) rfl (zbl (.pointer (some ⟨B, 0, none⟩)) (by rfl) (fun w _ => by go_simp)) hHeld ?_
  simp only [Act.put, nrm]
  refine tke 8 (.int .i64 sid) rfl (zbl (.int .i64 sid) (by rfl) (fun w h => by have hc := (Below.cell h (World.block_lt_of_cell? wa _ HP1.out)).trans HP1.out; go_simp)) hHeld ?_
  simp only [Act.put, nrm]
  refine rdy 9 rfl fun K hK => ?_
  go_simp
  refine (cmarked_any ([80, 67, 83, 84] : List UInt8) sid m1 rfl).mono ?_
  rintro e m2 ⟨x2, rfl, o2, b2⟩
  have r2 : Row1 m2 x2 ((([80, 67, 83, 84] : List UInt8) ++ be8s [sid]).map bval) := Row1.of_own o2
  obtain ⟨a2, c2, hx2, _⟩ := id r2
  rw [show ((([80, 67, 83, 84] : List UInt8) ++ be8s [sid]).map bval).length = 12 from rfl] at hx2
  subst hx2
  have N2 : Ext wa m2 := N1.trans b2
  refine hK.out _ _ N2 (fun hHeld => ?_)
  clear hK K
  try simp only [Act.put, nrm]
  refine rdy 10 rfl fun K hK => ?_
  refine zan (by rfl) ?_
  refine zbv (some 15) _ _ _ _ rfl rfl #[.slice a2 12 c2] iq (.slice none 0 0) Tryz.underlying88 HQ0.out HQ1.out (by rw [HQ2.out]; decide) (by rw [HQ2.out]; decide) (by rw [HQ2.out]; kernel_rfl) ?_
  obtain ⟨m3, hm3⟩ : ∃ wNew, wNew = World.alloc m2 (.cells #[.slice a2 12 c2] 46) := ⟨_, rfl⟩
  rw [← hm3]
  have b3 : Ext m2 m3 := by rw [hm3]; exact Ext.alloc _ _
  obtain ⟨g3, hg3⟩ : ∃ gNew, gNew = (m2).heap.size := ⟨_, rfl⟩
  rw [← hg3]
  have r2 := r2.below b3
  have r3 : Row1 m3 (.slice (some ⟨g3, 0, none⟩) 1 1) [.slice a2 12 c2] := by rw [hm3, hg3]; exact Row1.made _ _ _ _ _ _ rfl rfl rfl (by unfold maxLen; omega)
  clear hm3 hg3
  have N3 : Ext wa m3 := N2.trans b3
  refine hK.out _ _ N3 (fun hHeld => ?_)
  clear hK K
  try simp only [Act.put, nrm]
  refine rdy 11 rfl fun K hK => ?_
  go_simp
  refine (HVF.out _ m3 N3 (rowB1 r3 r2)).mono ?_
  rintro e m4 ⟨rfl, b4⟩
  have r2 := r2.below b4
  have r3 := r3.below b4
  have N4 : Ext wa m4 := N3.trans b4
  refine hK.out _ _ N4 (fun hHeld => ?_)
  clear hK K
  try simp only [Act.put, nrm]
  refine tke 12 (.bool q) rfl (yi_pick _ _ _ true _ (by rfl) rfl rfl rfl) hHeld ?_
  simp only [Act.put, nrm]
  refine rdy 13 rfl fun K hK => ?_
  go_simp
  refine hK.out _ _ N4 (fun hHeld => ?_)
  clear hK K
  try simp only [Act.put, nrm]
  refine dne ?_
  have HN := jh (HE.out.trans N4)
  go_wp2_with fail
  go_ret
  exact ⟨by rw [HQ.out]; rfl, HN.out⟩
theorem cPackStop_any (sig : List UInt8) (sid : Int) (w : World) (hs : sig.length = 64) :
  Calls Tryz.prog 21 #[.agg (stopC sid sig).toArray] w fun e w' => ∃ x, e = .returned (.tuple #[x, .int .i64 (stpE sid)]) ∧ w'.ownsRow w.heap.size 5 1 x (pckL sid sig).length ((pckL sid sig).map bval) ∧ Below w.heap.size w w' := by
 obtain ⟨i0, hi, hz0, hz1, hz2⟩ := info_parts Tryz.info5
 obtain ⟨iq, hq0, hq1, hq2⟩ := info_two (P := Tryz.prog) (t := 46) (z := .slice none 0 0) (n := 1) (by kernel_rfl)
 have HI0 := jh hi
 have HZ0 := jh hz0
 have HZ1 := jh hz1
 have HZ2 := jh hz2
 have HQ0 := jh hq0
 have HQ1 := jh hq1
 have HQ2 := jh hq2
 clear hi hz0 hz1 hz2 hq0 hq1 hq2
 have HSL := jh hs
 have HB0 := jh (Blk.made w (stopC sid sig) 39)
 have HE0 := jh (Ext.alloc w (.cells (stopC sid sig).toArray 39))
 have HFL : Hid ([([80, 67, 83, 84] : List UInt8) ++ be8s [sid], sig].flatten.length = 76) := jh (by
  have h := stopT_length sid
  unfold stopT at h
  simp only [List.flatten_cons, List.flatten_nil, List.append_nil, List.length_append, hs] at h ⊢
  omega)
 clear hs
 go_enter Tryz.func21, Tryz.ntmps21
 go_upto_region 1 with (fail)
 change Code.wp _ _ _ _ (w.alloc (.cells (stopC sid sig).toArray 39))
 generalize w.alloc (.cells (stopC sid sig).toArray 39) = wa at *
 obtain ⟨A, hA⟩ : ∃ A, A = w.heap.size := ⟨_, rfl⟩
 rw [← hA] at HB0 ⊢
 clear hA
 obtain ⟨hp1, hp2⟩ := stop_parts HB0.out
 have HP1 := jh hp1
 have HRS := jh (row_rng (n := 64) hp2 HB0.out.lt (by rw [List.length_map, HSL.out]) (by unfold maxLen; omega))
 have HE := HE0
 clear hp2 HE0
 go_wp2_with fail
 refine (cid_any sid wa).mono ?_
 rintro e w3 ⟨rfl, rfl⟩
 clear hp1
 cases hsm : smallB sid with
 | false =>
  have HQE : Hid (stpE sid = 1) := jh (by unfold stpE; rw [hsm]; rfl)
  have HQL : Hid (pckL sid sig = []) := jh (by unfold pckL; rw [hsm]; rfl)
  clear hsm
  go_wp2_with fail
  refine bodyPost_ret (res_twoP rfl _ _) rfl ?_
  exact ⟨_, by rw [HQE.out]; rfl, by rw [HQL.out]; exact World.ownsRow_nil _ _ _ _, HE.out⟩
 | true =>
  have HQE : Hid (stpE sid = 0) := jh (by unfold stpE; rw [hsm]; rfl)
  have HQL : Hid (pckL sid sig = stopB sid sig) := jh (by unfold pckL; rw [hsm]; rfl)
  clear hsm
  go_upto_region 3 with (fail)
  have B0 : Ext wa wa.drew := Ext.drew _
  refine wp_region_held_drew (S := fun w' => Ext wa w') (by kernel_rfl) B0 (fun hHeld => ?_)
  refine tke 0 (.pointer (some ⟨A, 0, none⟩)) rfl (zbl (.pointer (some ⟨A, 0, none⟩)) (by rfl) (fun w _ => by go_simp)) hHeld ?_
  simp only [Act.put, nrm]
  refine tke 1 (.int .i64 sid) rfl (zbl (.int .i64 sid) (by rfl) (fun w h => by have hc := (Below.cell h (World.block_lt_of_cell? wa _ HP1.out)).trans HP1.out; go_simp)) hHeld ?_
  simp only [Act.put, nrm]
  refine tke 3 (.pointer (some ⟨A, 1, none⟩)) rfl (zbl (.pointer (some ⟨A, 1, none⟩)) (by rfl) (fun w _ => by go_simp)) hHeld ?_
  simp only [Act.put, nrm]
  refine tke 4 (.slice (some ⟨A, 1, none⟩) 64 64) rfl (zew _ _ _ _ (.pointer (some ⟨A, 1, none⟩)) (.slice (some ⟨A, 1, none⟩) 64 64) none none (by rfl) rfl rfl rfl rfl (fun w => cut_part Tryz.underlying26 Tryz.sizeOf5 (by omega) _ _ w)) hHeld ?_
  simp only [Act.put, nrm]
  refine rdy 2 rfl fun K hK => ?_
  go_simp
  refine (cmarked_any ([80, 67, 83, 84] : List UInt8) sid wa.drew rfl).mono ?_
  rintro e m1 ⟨x1, rfl, o1, b1⟩
  have r1 : Row1 m1 x1 ((([80, 67, 83, 84] : List UInt8) ++ be8s [sid]).map bval) := Row1.of_own o1
  obtain ⟨a1, c1, hx1, _⟩ := id r1
  rw [show ((([80, 67, 83, 84] : List UInt8) ++ be8s [sid]).map bval).length = 12 from rfl] at hx1
  subst hx1
  have N1 : Ext wa m1 := B0.trans b1
  refine hK.out _ _ N1 (fun hHeld => ?_)
  clear hK K
  try simp only [Act.put, nrm]
  refine rdy 5 rfl fun K hK => ?_
  refine zan (by rfl) ?_
  refine zbv (some 13) _ _ _ _ rfl rfl #[.slice a1 12 c1, .slice (some ⟨A, 1, none⟩) 64 64] iq (.slice none 0 0) Tryz.underlying88 HQ0.out HQ1.out (by rw [HQ2.out]; decide) (by rw [HQ2.out]; decide) (by rw [HQ2.out]; kernel_rfl) ?_
  obtain ⟨m2, hm2⟩ : ∃ wNew, wNew = World.alloc m1 (.cells #[.slice a1 12 c1, .slice (some ⟨A, 1, none⟩) 64 64] 46) := ⟨_, rfl⟩
  rw [← hm2]
  have b2 : Ext m1 m2 := by rw [hm2]; exact Ext.alloc _ _
  obtain ⟨g2, hg2⟩ : ∃ gNew, gNew = (m1).heap.size := ⟨_, rfl⟩
  rw [← hg2]
  have r1 := r1.below b2
  have r2 : Row1 m2 (.slice (some ⟨g2, 0, none⟩) 2 2) [.slice a1 12 c1, .slice (some ⟨A, 1, none⟩) 64 64] := by rw [hm2, hg2]; exact Row1.made _ _ _ _ _ _ rfl rfl rfl (by unfold maxLen; omega)
  clear hm2 hg2
  have N2 : Ext wa m2 := N1.trans b2
  refine hK.out _ _ N2 (fun hHeld => ?_)
  clear hK K
  try simp only [Act.put, nrm]
  refine rdy 6 rfl fun K hK => ?_
  go_simp
  refine (stdConcat_any _ [([80, 67, 83, 84] : List UInt8) ++ be8s [sid], sig] m2 (rowB2 r2 r1 ((HRS.out).below N2)) (by rw [HFL.out]; decide)).mono ?_
  rintro e m3 ⟨x3, rfl, o3, b3⟩
  have r1 := r1.below b3
  have r2 := r2.below b3
  have o3 := own_mono o3 N2.size
  have N3 : Ext wa m3 := N2.trans b3
  refine hK.out _ _ N3 (fun hHeld => ?_)
  clear hK K
  try simp only [Act.put, nrm]
  refine tke 7 x3 rfl (yi_assign _ (x3) (by rfl) rfl rfl) hHeld ?_
  simp only [Act.put, nrm]
  refine rdy 8 rfl fun K hK => ?_
  go_simp
  refine hK.out _ _ N3 (fun hHeld => ?_)
  clear hK K
  try simp only [Act.put, nrm]
  refine dne ?_
  have HO9 := jh o3
  have HE9 := jh (HE.out.trans N3)
  generalize m3 = w9 at HO9 HE9 ⊢
  go_wp2_with fail
  refine bodyPost_ret (res_twoP rfl _ _) rfl ?_
  exact ⟨_, by rw [HQE.out]; rfl, own_eq (own_mono HO9.out HE.out.size) (by rw [HQL.out, zed sid HSL.out, HFL.out]) (by rw [HQL.out]; unfold stopB stopT; simp), HE9.out⟩
def rwB (b : List UInt8) (p : Nat) (bad : Bool) (n : Nat) : Bool := bad || decide (b.length < p + n)
def rwP (b : List UInt8) (p : Nat) (bad : Bool) (n : Nat) : Nat := if rwB b p bad n = true then p else p + n
def rwL (b : List UInt8) (p : Nat) (bad : Bool) (n : Nat) : List UInt8 := if rwB b p bad n = true then [] else (b.drop p).take n
def rwI (b : List UInt8) (p : Nat) (bad : Bool) : Int := if rwB b p bad 8 = true then 0 else decI ((b.drop p).take 8)
theorem readS_cur (b : List UInt8) : readS b = if rwL b 0 false 4 = [80, 67, 83, 84] ∧ (!rwB b (rwP b (rwP b 0 false 4) (rwB b 0 false 4) 8) (rwB b (rwP b 0 false 4) (rwB b 0 false 4) 8) 64 && decide (rwP b (rwP b (rwP b 0 false 4) (rwB b 0 false 4) 8) (rwB b (rwP b 0 false 4) (rwB b 0 false 4) 8) 64 = b.length)) = true ∧ smallB (rwI b (rwP b 0 false 4) (rwB b 0 false 4)) = true then
  some (rwI b (rwP b 0 false 4) (rwB b 0 false 4), if rwB b (rwP b (rwP b 0 false 4) (rwB b 0 false 4) 8) (rwB b (rwP b 0 false 4) (rwB b 0 false 4) 8) 64 = true then z64 else rwL b (rwP b (rwP b 0 false 4) (rwB b 0 false 4) 8) (rwB b (rwP b 0 false 4) (rwB b 0 false 4) 8) 64) else none := by
 by_cases h4 : b.length < 4
 ·have e1 : rwB b 0 false 4 = true := by unfold rwB; simp; omega
  have e2 : rwL b 0 false 4 = [] := by unfold rwL; rw [e1]; rfl
  rw [readS_long (by omega), e2, if_neg (fun h => by have := h.1; cases this)]
 ·have d1 : rwB b 0 false 4 = false := by unfold rwB; simp; omega
  have p1 : rwP b 0 false 4 = 4 := by unfold rwP; rw [d1]; rfl
  have tl : rwL b 0 false 4 = b.take 4 := by unfold rwL; rw [d1]; rfl
  rw [d1, p1, tl]
  by_cases h12 : b.length < 12
  ·have d2 : rwB b 4 false 8 = true := by unfold rwB; simp; omega
   rw [d2]
   have d3 : ∀ q, rwB b q true 64 = true := fun q => rfl
   rw [d3, readS_long (by omega), if_neg (fun h => by have := h.2.1; simp at this)]
  ·have d2 : rwB b 4 false 8 = false := by unfold rwB; simp; omega
   have p2 : rwP b 4 false 8 = 12 := by unfold rwP; rw [d2]; rfl
   have n1 : rwI b 4 false = decI ((b.drop 4).take 8) := by unfold rwI; rw [d2]; rfl
   rw [d2, p2, n1]
   by_cases h76 : b.length < 76
   ·have d3 : rwB b 12 false 64 = true := by unfold rwB; simp; omega
    rw [d3, readS_long (by omega), if_neg (fun h => by have := h.2.1; simp at this)]
   ·have d3 : rwB b 12 false 64 = false := by unfold rwB; simp; omega
    have p3 : rwP b 12 false 64 = 76 := by unfold rwP; rw [d3]; rfl
    have rl : rwL b 12 false 64 = (b.drop 12).take 64 := by unfold rwL; rw [d3]; rfl
    rw [d3, p3, rl]
    unfold readS
    by_cases hl : b.length = 76
    ·have e : (b.drop 12).take 64 = b.drop 12 := List.take_of_length_le (by rw [List.length_drop]; omega)
     rw [e]
     by_cases hc : b.take 4 = [80, 67, 83, 84] ∧ smallB (decI ((b.drop 4).take 8)) = true
     ·rw [if_pos ⟨hl, hc.1, hc.2⟩, if_pos ⟨hc.1, by simp [hl], hc.2⟩]
      rfl
     ·rw [if_neg (fun h => hc h.2), if_neg (fun h => hc ⟨h.1, h.2.2⟩)]
    ·rw [if_neg (fun h => hl h.1), if_neg (fun h => by have := h.2.1; simp at this; omega)]
theorem rd_yes {b : List UInt8} {x : Int × List UInt8} (h : readS b = some x) : rdE b = 0 ∧ rdI b = x.1 ∧ rdG b = x.2 := by
 unfold rdE rdI rdG
 rw [h]
 exact ⟨rfl, rfl, rfl⟩
theorem rd_no {b : List UInt8} (h : readS b = none) : rdE b = 4 ∧ rdI b = 0 ∧ rdG b = z64 := by
 unfold rdE rdI rdG
 rw [h]
 exact ⟨rfl, rfl, rfl⟩
theorem zff {P : Program} {a : Act} {w : World} {Q : Exit → Act → World → Prop} {c rest : Code} (l : Nat) (hf : findLabel c l = some rest) (h : c.wp P (Exit.jump l (fun a w => rest.wp P (Exit.noGoto Q) a w) Q) a w) : (Code.scope c).wp P Q a w :=
 wp_scope_jumps l _ (fun _ _ => 0) hf h (fun a w hJ => Code.wp_mono (fun e a w h => by cases e <;> first | exact h | exact absurd h (by simp [Exit.noGoto])) hJ)
theorem or_byteU (m bt : Nat) (hm : m < 72057594037927936) (hb : bt < 256) : bits .or .u64 (IntKind.u64.wrap ((m : Int) * 256)) (IntKind.u64.wrap (bt : Int)) = ((m * 256 + bt : Nat) : Int) := by
 have e1 : (BitVec.ofInt 64 (IntKind.u64.wrap ((m : Int) * 256))).toNat = m * 256 := by
  rw [BitVec.toNat_ofInt, IntKind.wrap_u64]
  omega
 have e2 : (BitVec.ofInt 64 (IntKind.u64.wrap (bt : Int))).toNat = bt := by
  rw [BitVec.toNat_ofInt, IntKind.wrap_u64]
  omega
 show IntKind.u64.wrap ((BitVec.ofInt 64 (IntKind.u64.wrap ((m : Int) * 256)) ||| BitVec.ofInt 64 (IntKind.u64.wrap (bt : Int))).toNat : Nat) = _
 rw [BitVec.toNat_or, e1, e2]
 have := Nat.two_pow_add_eq_or_of_lt (i := 8) (b := bt) (by simpa using hb) m
 rw [Nat.mul_comm m 256]
 have h2 : 256 * m ||| bt = 256 * m + bt := this.symm
 rw [h2, IntKind.wrap_u64]
 omega
theorem number_any {v : Value} {l : List UInt8} (w : World) (hv : Row1 w v (l.map bval)) (hl : 8 ≤ l.length) :
  Calls Tryz.prog 76 #[v] w fun e w' => e = .returned (.int .i64 (decI (l.take 8))) ∧ w = w' := by
 obtain ⟨a, cap, rfl, h1, h2, h3, h4⟩ := hv
 rw [List.length_map] at h1 ⊢
 unfold maxLen at h2
 obtain ⟨b, off, rfl, hbw, hc⟩ := h4 (by intro e; have := List.map_eq_nil_iff.1 e; subst this; simp at hl)
 have hcell : ∀ k, k < 8 → w.cell? ⟨b, off + k, none⟩ = some (.int .u8 (l.getD k 0).toNat) := by
  intro k hk
  rw [hc k (by simp; omega), List.getElem?_map, List.getElem?_eq_getElem (by omega)]
  simp [List.getD, show k < l.length from by omega, bval]
 have HC := jh hcell
 have HL := jh hl
 have hcap8 : 8 ≤ cap := by omega
 clear h3 h4 hc hcell hl
 go_enter Tryz.func76, Tryz.ntmps76
 go_wp2_with fail
 go_loop [3, 9] (fun s i => ∃ k : Nat, k ≤ 8 ∧ i = .int .i64 k ∧ s = .int .u64 (accN (l.take k))) (fun _ i => 8 - (intOf i).toNat)
 case atStart => exact ⟨0, by omega, rfl, by rfl⟩
 case round =>
  obtain ⟨k, hk, rfl, rfl⟩ := hrel
  by_cases hlt : k < 8
  ·have hl := HL.out
   have c1 := HC.out k hlt
   have i0' : (0 : Int) ≤ (k : Int) := Int.natCast_nonneg _
   have i1 : (k : Int) < 8 := by omega
   have hm := accN_lt (l.take k)
   have hm2 : 256 ^ (l.take k).length ≤ 256 ^ 7 := Nat.pow_le_pow_right (by omega) (by simp; omega)
   have hm3 : (256 : Nat) ^ 7 = 72057594037927936 := by decide
   have hbt := (l.getD k 0).toNat_lt
   have hnext : bits .or .u64 (IntKind.u64.wrap ((accN (l.take k) : Int) * 256)) (IntKind.u64.wrap ((l.getD k 0).toNat : Int)) = (accN (l.take (k + 1)) : Int) := by
    rw [or_byteU _ _ (by omega) (by simpa using hbt), List.take_succ_eq_append_getElem (by omega), accN_snoc]
    simp [List.getD, show k < l.length from by omega]
   have HN := jh hnext
   clear hm hm2 hm3 hbt hnext
   generalize (l.getD k 0).toNat = bt at *
   generalize accN (l.take k) = m at *
   go_wp2_with fail
   go_round
   case rel => exact ⟨k + 1, by omega, by go_num, by rw [HN.out]⟩
   case measure => simp [intOf]; omega
  ·have hk' : k = 8 := by omega
   subst hk'
   go_wp2_with fail
   go_ret
   exact ⟨by unfold decI; rw [pck_i64wrap]; rfl, rfl⟩
def PCur (w : World) (B c : Nat) (l : List UInt8) (p : Nat) (bad : Bool) : Prop :=
 ∃ v, Blk w c [v, .bool bad] 111 ∧ c < B ∧ B ≤ w.heap.size ∧ p ≤ l.length ∧ l.length ≤ 1099511627776 ∧ (∀ k, v.ownBlock = some k → k < B ∧ k ≠ c) ∧
  (bad = true → v = .slice none 0 0) ∧ (bad = false → Row1 w v ((l.drop p).map bval))
theorem PCur.keep {w w' : World} {B c : Nat} {l : List UInt8} {p : Nat} {bad : Bool} (h : PCur w B c l p bad) (hh : ∀ k, k < B → w'.heap[k]? = w.heap[k]?) (hs : w.heap.size ≤ w'.heap.size) : PCur w' B c l p bad := by
 obtain ⟨v, h1, h2, h3, h4, h5, h6, h7, h8⟩ := h
 exact ⟨v, h1.same (hh c h2), h2, Nat.le_trans h3 hs, h4, h5, h6, h7, fun e => (h8 e).same hs fun p hp _ => World.cell?_of_block (hh p.block (h6 p.block hp).1)⟩
theorem Row1.setFar {w : World} {v : Value} {vs : List Value} {c i : Nat} {u : Value} (h : Row1 w v vs) (hne : v.ownBlock ≠ some c) : Row1 (w.setCell ⟨c, i, none⟩ u) v vs := h.store hne u
theorem PCur.open (w : World) {B c : Nat} {l : List UInt8} {p : Nat} {bad : Bool} (h : PCur w B c l p bad) : ∃ a len cap, Blk w c [.slice a len cap, .bool bad] 111 ∧ c < B ∧ B ≤ w.heap.size ∧ p ≤ l.length ∧ l.length ≤ 1099511627776 ∧ (∀ k, (Value.slice a len cap).ownBlock = some k → k < B ∧ k ≠ c) ∧
  (bad = true → a = none ∧ len = 0 ∧ cap = 0) ∧ (bad = false → Row1 w (.slice a len cap) ((l.drop p).map bval) ∧ len = l.length - p ∧ len ≤ cap ∧ cap ≤ maxLen ∧ (a = none → cap = 0)) := by
 obtain ⟨v, h1, h2, h3, h4, h5, h6, h7, h8⟩ := h
 cases bad with
 | true =>
  have := h7 rfl
  subst this
  exact ⟨none, 0, 0, h1, h2, h3, h4, h5, h6, (fun _ => ⟨rfl, rfl, rfl⟩), (fun e => by cases e)⟩
 | false =>
  have hr := h8 rfl
  obtain ⟨a, cap, rfl, g1, g2, g3, g4⟩ := id hr
  exact ⟨a, _, cap, h1, h2, h3, h4, h5, h6, (fun e => by cases e), (fun _ => ⟨hr, by simp, g1, g2, g3⟩)⟩
theorem PCur.spoilt {w w' : World} {B c : Nat} {l : List UInt8} {p : Nat} {bad : Bool} (h : PCur w B c l p bad) (hb : Blk w' c [.slice none 0 0, .bool true] 111) (hs : w.heap.size ≤ w'.heap.size) : PCur w' B c l p true := by
 obtain ⟨v, h1, h2, h3, h4, h5, h6, h7, h8⟩ := h
 exact ⟨_, hb, h2, Nat.le_trans h3 hs, h4, h5, (fun k hk => by simp [Value.ownBlock] at hk), (fun _ => rfl), (fun e => by cases e)⟩
theorem Row1.rest {w : World} {ad : Addr} {len cap : Nat} {vs : List Value} (h : Row1 w (.slice (some ad) len cap) vs) (n : Nat) (hn : n ≤ vs.length) : Row1 w (.slice (some (ad.add n)) (len - n) (cap - n)) (vs.drop n) := by
 obtain ⟨a', cap', e, h1, h2, h3, h4⟩ := id h
 cases e
 have := h.sliced n (vs.length - n) (by omega)
 rwa [List.take_of_length_le (by simp)] at this
theorem own_cut (ad : Addr) (n len cap : Nat) : (Value.slice (some (ad.add n)) (len - n) (cap - n)).ownBlock = (Value.slice (some ad) len cap).ownBlock := by
 simp only [Value.ownBlock, Addr.add]
 split <;> rfl
theorem PCur.moved {w w' : World} {B c : Nat} {l : List UInt8} {p n : Nat} {v : Value} (h : PCur w B c l p false) (hb : Blk w' c [v, .bool false] 111) (hs : w.heap.size ≤ w'.heap.size) (ho : ∀ k, v.ownBlock = some k → k < B ∧ k ≠ c) (hr : Row1 w' v (((l.drop p).drop n).map bval)) (hn : p + n ≤ l.length) : PCur w' B c l (p + n) false := by
 obtain ⟨v0, h1, h2, h3, h4, h5, h6, h7, h8⟩ := h
 refine ⟨v, hb, h2, Nat.le_trans h3 hs, hn, h5, ho, (fun e => by cases e), (fun _ => ?_)⟩
 rwa [List.drop_drop] at hr
/-- read, of what there is not. -/
theorem pread_no (w : World) (B c : Nat) (l : List UInt8) (p : Nat) (bad : Bool) (n : Int) (h : PCur w B c l p bad) (hn : bad = true ∨ n < 0 ∨ (l.length : Int) - p < n) :
  Calls Tryz.prog 75 #[.pointer (some ⟨c, 0, none⟩), .int .i64 n, .bool false] w fun e w' => e = .returned (.slice none 0 0) ∧ PCur w' B c l p true ∧ w.grownBy w' (some c) := by
 obtain ⟨a, len, cap, g1, g2, g3, g4, g5, g6, g7, g8⟩ := h.open
 have c0 := g1.cell 0
 have c1 := g1.cell 1
 have f0 := g1.free 0
 have f1 := g1.free 1
 simp only [List.getElem?_cons_zero, List.getElem?_cons_succ] at c0 c1
 have HP := jh h
 have HG := jh g1
 cases bad with
 | true =>
  clear h g1 g6 g7 hn g8
  go_enter Tryz.func75, Tryz.ntmps75
  go_wp2_with fail
  refine zff 0 (by rfl) ?_
  go_wp2_with fail
  go_step3
  refine ⟨rfl, ?_⟩
  go_wp2_with fail
  rw [Exit.noGoto_ret]
  go_ret
  exact ⟨rfl, HP.out.spoilt ((HG.out.set 0 (.slice none 0 0)).set 1 (.bool true)) (by simp), zbp (zbp (zch w _) 0 _) 1 _⟩
 | false =>
  obtain ⟨g9, g10, g11, g12, g13⟩ := g8 rfl
  unfold maxLen at g12
  have hlenI : (len : Int) = (l.length : Int) - p := by omega
  by_cases hneg : n < 0
  ·clear h g1 g6 g7 hn g8 g9 g10 g13 hlenI
   go_enter Tryz.func75, Tryz.ntmps75
   go_wp2_with fail
   refine zff 0 (by rfl) ?_
   go_wp2_with fail
   go_step3
   refine ⟨rfl, ?_⟩
   go_wp2_with fail
   rw [Exit.noGoto_ret]
   go_ret
   exact ⟨rfl, HP.out.spoilt ((HG.out.set 0 (.slice none 0 0)).set 1 (.bool true)) (by simp), zbp (zbp (zch w _) 0 _) 1 _⟩
  ·have h2 : (len : Int) < n := by
    rcases hn with h | h | h
    ·cases h
    ·exact absurd h hneg
    ·omega
   have hd : decide (n < 0) = false := decide_eq_false hneg
   clear h g1 g6 g7 hn g8 g9 g10 g13 hlenI hneg
   go_enter Tryz.func75, Tryz.ntmps75
   go_wp2_with fail
   refine zff 0 (by rfl) ?_
   go_wp2_with fail
   go_step3
   refine ⟨rfl, ?_⟩
   go_wp2_with fail
   rw [Exit.noGoto_ret]
   go_ret
   exact ⟨rfl, HP.out.spoilt ((HG.out.set 0 (.slice none 0 0)).set 1 (.bool true)) (by simp), zbp (zbp (zch w _) 0 _) 1 _⟩
/-- read, of what there is. -/
theorem pread_yes (w : World) (B c : Nat) (l : List UInt8) (p n : Nat) (h : PCur w B c l p false) (hn : p + n ≤ l.length) :
  Calls Tryz.prog 75 #[.pointer (some ⟨c, 0, none⟩), .int .i64 n, .bool false] w fun e w' => ∃ v, e = .returned v ∧ Row1 w' v (((l.drop p).take n).map bval) ∧ (∀ k, v.ownBlock = some k → k < B ∧ k ≠ c) ∧ PCur w' B c l (p + n) false ∧ w.grownBy w' (some c) := by
 obtain ⟨a, len, cap, g1, g2, g3, g4, g5, g6, g7, g8⟩ := h.open
 have c0 := g1.cell 0
 have c1 := g1.cell 1
 have f0 := g1.free 0
 have f1 := g1.free 1
 simp only [List.getElem?_cons_zero, List.getElem?_cons_succ] at c0 c1
 have HP := jh h
 have HG := jh g1
 obtain ⟨g9, g10, g11, g12, g13⟩ := g8 rfl
 unfold maxLen at g12
 have hnl : n ≤ len := by omega
 have hnc : n ≤ cap := by omega
 have hd : decide ((n : Int) < 0) = false := decide_eq_false (by omega)
 have hd2 : decide ((len : Int) < (n : Int)) = false := decide_eq_false (by omega)
 have hn0 : (0 : Int) ≤ (n : Int) := Int.natCast_nonneg _
 have hml : n ≤ ((l.drop p).map bval).length := by simp; omega
 have HOWN := jh g6
 have HN := jh hn
 have HNE : Hid ((Value.slice a len cap).ownBlock ≠ some c) := jh fun e => (g6 c e).2 rfl
 have HHEAD := jh (g9.head n hml)
 rw [← List.map_take] at HHEAD
 cases a with
 | none =>
  have hc0 : cap = 0 := g13 rfl
  have hl0 : len = 0 := by omega
  have hn00 : n = 0 := by omega
  subst hc0 hl0 hn00
  have HREST : Hid (Row1 w (.slice none 0 0) (((l.drop p).drop 0).map bval)) := jh g9
  clear h g1 g6 g7 hn g8 g9 g10 g13 hml
  go_enter Tryz.func75, Tryz.ntmps75
  go_wp2_with fail
  refine zff 0 (by rfl) ?_
  go_wp2_with fail
  go_region
  go_wp2_with fail
  simp only [Exit.jump]
  go_ret
  refine ⟨_, rfl, HHEAD.out.drew.setFar HNE.out, HOWN.out, HP.out.moved (n := 0) ((HG.out.drewN 1).set 0 (.slice none 0 0)) (by simp) HOWN.out (HREST.out.drew.setFar HNE.out) HN.out, zbp (zem (zch w _) 1) 0 _⟩
 | some ad =>
  by_cases hc : n = cap
  ·subst hc
   have hln : len = n := by omega
   subst hln
   have HREST : Hid (Row1 w (.slice (some ad) 0 0) (((l.drop p).drop len).map bval)) := jh (by
    rw [List.drop_of_length_le (by simp; omega)]
    exact Row1.empty w ad 0 (Nat.zero_le _))
   clear h g1 g6 g7 hn g8 g9 g10 g13 hml
   go_enter Tryz.func75, Tryz.ntmps75
   go_wp2_with fail
   refine zff 0 (by rfl) ?_
   go_wp2_with fail
   go_region
   go_wp2_with fail
   simp only [Exit.jump]
   go_ret
   refine ⟨_, rfl, HHEAD.out.drew.setFar HNE.out, HOWN.out, HP.out.moved (n := len) ((HG.out.drewN 1).set 0 _) (by simp) HOWN.out (HREST.out.drew.setFar HNE.out) HN.out, zbp (zem (zch w _) 1) 0 _⟩
  ·have hcz : ¬ cap = n := fun e => hc e.symm
   have HREST := jh (g9.rest n hml)
   rw [← List.map_drop] at HREST
   have HOWN2 : Hid (∀ k, (Value.slice (some (ad.add n)) (len - n) (cap - n)).ownBlock = some k → k < B ∧ k ≠ c) := jh (by rw [own_cut ad n len cap]; exact g6)
   have HNE2 : Hid ((Value.slice (some (ad.add n)) (len - n) (cap - n)).ownBlock ≠ some c) := jh (by rw [own_cut ad n len cap]; exact HNE.out)
   clear h g1 g6 g7 hn g8 g9 g10 g13 hml
   go_enter Tryz.func75, Tryz.ntmps75
   go_wp2_with fail
   refine zff 0 (by rfl) ?_
   go_wp2_with fail
   go_region
   go_wp2_with fail
   simp only [Exit.jump]
   go_ret
   refine ⟨_, rfl, HHEAD.out.drew.setFar HNE.out, HOWN.out, HP.out.moved (n := n) ((HG.out.drewN 1).set 0 _) (by simp) HOWN2.out (HREST.out.drew.setFar HNE2.out) HN.out, zbp (zem (zch w _) 1) 0 _⟩
theorem PCur.lt {w : World} {B c : Nat} {l : List UInt8} {p : Nat} {bad : Bool} (h : PCur w B c l p bad) : c < B ∧ B ≤ w.heap.size := by
 obtain ⟨v, h1, h2, h3, _⟩ := h
 exact ⟨h2, h3⟩
theorem PCur.grown {w w' : World} {B c : Nat} {l : List UInt8} {p : Nat} {bad : Bool} (h : PCur w B c l p bad) (hg : w.grownBy w' none) : PCur w' B c l p bad :=
 h.keep (fun k hk => hg.block k (Nat.lt_of_lt_of_le hk h.lt.2) (by simp)) hg.size
theorem pnew (v : Value) (l : List UInt8) (w : World) (hv : Row1 w v (l.map bval)) (hl : l.length ≤ 1099511627776) :
  Calls Tryz.prog 41 #[v] w fun e w' => ∃ B c, e = .returned (.pointer (some ⟨c, 0, none⟩)) ∧ PCur w' B c l 0 false ∧ w.heap.size ≤ c ∧ Below w.heap.size w w' := by
 obtain ⟨i0, hi, hz0, hz1, hz2⟩ := info_parts Tryz.info5
 have HV := jh hv
 have hbl : Hid ((l.map bval).length = l.length) := jh (by simp)
 clear hv
 go_enter Tryz.func41, Tryz.ntmps41
 go_wp2_with (at_builtin; refine zas rfl _ _ 46 rfl w.heap.size 5 i0 (.int .u8 0) 1 Tryz.underlying46 hi hz0 hz1 hz2 rfl _ 0 [] rfl (World.ownsRow_nil _ _ _ _) rfl HV.out (zaj _) (by rw [hbl.out]; unfold maxLen; omega) (by rw [hbl.out]; omega) (Nat.le_refl _) ?_; intro v1 w1 hown1 hgrow1; obtain ⟨a1, cap1, rfl, _, _, _, _⟩ := id (Row1.of_own hown1))
 go_ret
 have HG := jh hgrow1
 rw [List.nil_append, hbl.out] at hown1
 have HO := jh hown1
 have hb : Below w.heap.size w w1 := (Below.refl _ _).grown HG.out (Nat.le_refl _) (fun r hr => by cases hr)
 refine ⟨w1.heap.size + 1, w1.heap.size, rfl, ⟨_, Blk.made _ _ _, by omega, by simp, Nat.zero_le _, hl, ?_, (fun e => by cases e), (fun _ => ?_)⟩, HG.out.size, hb.alloc HG.out.size _⟩
 ·intro k hk
  have := (HO.out.lt k hk).2
  exact ⟨by omega, by omega⟩
 ·rw [List.drop_zero]
  exact (Row1.of_own HO.out).alloc _
theorem pint_no (w : World) (B c : Nat) (l : List UInt8) (p : Nat) (bad : Bool) (h : PCur w B c l p bad) (hn : bad = true ∨ l.length < p + 8) :
  Calls Tryz.prog 43 #[.pointer (some ⟨c, 0, none⟩)] w fun e w' => e = .returned (.int .i64 0) ∧ PCur w' B c l p true ∧ w.grownBy w' (some c) := by
 have HR := jh (pread_no w B c l p bad 8 h (hn.elim Or.inl fun h => Or.inr (Or.inr (by omega))))
 clear h hn
 go_enter Tryz.func43, Tryz.ntmps43
 go_wp2_with fail
 refine HR.out.mono ?_
 rintro e w1 ⟨rfl, hp, hg⟩
 obtain ⟨a, len, cap, g1, _⟩ := hp.open
 have c1 := g1.cell 1
 simp only [List.getElem?_cons_zero, List.getElem?_cons_succ] at c1
 have HP := jh hp
 have HG := jh hg
 clear hp hg g1
 go_wp2_with fail
 go_ret
 exact ⟨rfl, HP.out, HG.out⟩
theorem pint_yes (w : World) (B c : Nat) (l : List UInt8) (p : Nat) (h : PCur w B c l p false) (hn : p + 8 ≤ l.length) :
  Calls Tryz.prog 43 #[.pointer (some ⟨c, 0, none⟩)] w fun e w' => e = .returned (.int .i64 (decI ((l.drop p).take 8))) ∧ PCur w' B c l (p + 8) false ∧ w.grownBy w' (some c) := by
 have HR := jh (pread_yes w B c l p 8 h hn)
 have hl8 : Hid (((l.drop p).take 8).length = 8) := jh (by simp; omega)
 have ht : Hid (((l.drop p).take 8).take 8 = (l.drop p).take 8) := jh (by rw [List.take_take]; rfl)
 clear h hn
 go_enter Tryz.func43, Tryz.ntmps43
 go_wp2_with fail
 refine HR.out.mono ?_
 rintro e w1 ⟨v, rfl, hv, _, hp, hg⟩
 obtain ⟨a, len, cap, g1, _⟩ := hp.open
 have c1 := g1.cell 1
 simp only [List.getElem?_cons_zero, List.getElem?_cons_succ] at c1
 have hnum := number_any w1 hv (by rw [hl8.out]; omega)
 rw [ht.out] at hnum
 have HN := jh hnum
 have HP := jh hp
 have HG := jh hg
 clear hp hg g1 hv hnum
 go_wp2_with fail
 refine HN.out.mono ?_
 rintro e w' ⟨rfl, rfl⟩
 go_wp2_with fail
 go_ret
 exact ⟨rfl, HP.out, HG.out⟩
theorem praw_no (w : World) (B c : Nat) (l : List UInt8) (p : Nat) (bad : Bool) (n : Int) (h : PCur w B c l p bad) (hn : bad = true ∨ n < 0 ∨ (l.length : Int) - p < n) :
  Calls Tryz.prog 42 #[.pointer (some ⟨c, 0, none⟩), .int .i64 n] w fun e w' => ∃ v, e = .returned v ∧ w'.ownsRow w.heap.size 5 1 v 0 [] ∧ PCur w' B c l p true ∧ w.grownBy w' (some c) := by
 obtain ⟨i0, hi, hz0, hz1, hz2⟩ := info_parts Tryz.info5
 have HR := jh (pread_no w B c l p bad n h hn)
 clear h hn
 go_enter Tryz.func42, Tryz.ntmps42
 go_wp2_with fail
 refine HR.out.mono ?_
 rintro e w1 ⟨rfl, hp, hg⟩
 have HP := jh hp
 have HG := jh hg
 clear hp hg
 go_wp2_with (at_builtin; refine zas rfl _ _ 46 rfl w.heap.size 5 i0 (.int .u8 0) 1 Tryz.underlying46 hi hz0 hz1 hz2 rfl _ 0 [] rfl (World.ownsRow_nil _ _ _ _) rfl (Row1.nil w1) (fun u hu => by cases hu) (by unfold maxLen; simp) (by simp) HG.out.size ?_; intro v1 w2 hown1 hgrow1)
 have HO := jh hown1
 have HG2 := jh hgrow1
 clear hown1 hgrow1
 go_wp2_with fail
 go_ret
 exact ⟨_, rfl, HO.out, HP.out.grown HG2.out, grownBy_trans HG.out (zeg HG2.out)⟩
theorem praw_yes (w : World) (B c : Nat) (l : List UInt8) (p n : Nat) (h : PCur w B c l p false) (hn : p + n ≤ l.length) :
  Calls Tryz.prog 42 #[.pointer (some ⟨c, 0, none⟩), .int .i64 n] w fun e w' => ∃ v, e = .returned v ∧ w'.ownsRow w.heap.size 5 1 v n (((l.drop p).take n).map bval) ∧ PCur w' B c l (p + n) false ∧ w.grownBy w' (some c) := by
 obtain ⟨i0, hi, hz0, hz1, hz2⟩ := info_parts Tryz.info5
 have HR := jh (pread_yes w B c l p n h hn)
 have hll : l.length ≤ 1099511627776 := by obtain ⟨v, _, _, _, _, h5, _⟩ := h; exact h5
 have hbl : Hid ((((l.drop p).take n).map bval).length = n) := jh (by simp; omega)
 have hn40 : n ≤ 1099511627776 := by omega
 clear h hn hll
 go_enter Tryz.func42, Tryz.ntmps42
 go_wp2_with fail
 refine HR.out.mono ?_
 rintro e w1 ⟨v, rfl, hv, _, hp, hg⟩
 have HV := jh hv
 have HP := jh hp
 have HG := jh hg
 clear hp hg hv
 go_wp2_with (at_builtin; refine zas rfl _ _ 46 rfl w.heap.size 5 i0 (.int .u8 0) 1 Tryz.underlying46 hi hz0 hz1 hz2 rfl _ 0 [] rfl (World.ownsRow_nil _ _ _ _) rfl HV.out (zaj _) (by rw [hbl.out]; unfold maxLen; omega) (by rw [hbl.out]; omega) HG.out.size ?_; intro v1 w2 hown1 hgrow1)
 rw [List.nil_append, hbl.out, Nat.zero_add] at hown1
 have HO := jh hown1
 have HG2 := jh hgrow1
 clear hown1 hgrow1
 go_wp2_with fail
 go_ret
 exact ⟨_, rfl, HO.out, HP.out.grown HG2.out, grownBy_trans HG.out (zeg HG2.out)⟩
theorem pend (w : World) (B c : Nat) (l : List UInt8) (p : Nat) (bad : Bool) (h : PCur w B c l p bad) :
  Calls Tryz.prog 44 #[.pointer (some ⟨c, 0, none⟩)] w fun e w' => e = .returned (.bool (!bad && decide (p = l.length))) ∧ ∃ k, w' = w.drewN k := by
 obtain ⟨a, len, cap, g1, g2, g3, g4, g5, g6, g7, g8⟩ := h.open
 have c0 := g1.cell 0
 have c1 := g1.cell 1
 simp only [List.getElem?_cons_zero, List.getElem?_cons_succ] at c0 c1
 cases bad with
 | true =>
  clear h g1 g6 g7 g8
  go_enter Tryz.func44, Tryz.ntmps44
  go_wp2_with fail
  go_ret
  exact ⟨rfl, 0, rfl⟩
 | false =>
  have hl := (g8 rfl).2.1
  by_cases hp : p = l.length
  ·have h0 : len = 0 := by omega
   subst h0
   have HD : Hid (decide (p = l.length) = true) := jh (decide_eq_true hp)
   clear h g1 g6 g7 g8 hp hl
   go_enter Tryz.func44, Tryz.ntmps44
   go_wp2_with fail
   go_ret
   exact ⟨by rw [HD.out]; rfl, 0, rfl⟩
  ·have h0 : ((len : Int) == 0) = false := by simp; omega
   have HD : Hid (decide (p = l.length) = false) := jh (decide_eq_false hp)
   clear h g1 g6 g7 g8 hp hl
   go_enter Tryz.func44, Tryz.ntmps44
   go_wp2_with fail
   go_ret
   exact ⟨by rw [HD.out]; rfl, 0, rfl⟩
theorem row_range {w : World} {a : Option Addr} {n cap : Nat} {vs : List Value} (h : Row1 w (.slice a n cap) vs) (hne : vs ≠ []) : ∃ b off, a = some ⟨b, off, none⟩ ∧ w.rangeAt b off vs := by
 obtain ⟨a', cap', he, _, _, _, h5⟩ := h
 obtain ⟨b, off, ha, _, hc⟩ := h5 hne
 injection he with e1 e2 e3
 subst e1
 refine ⟨b, off, ha, fun j v hj => ?_⟩
 have hjl : j < vs.length := by
  rcases Nat.lt_or_ge j vs.length with h' | h'
  ·exact h'
  ·rw [List.getElem?_eq_none h'] at hj; cases hj
 rw [hc j hjl, hj]
theorem pcur_raw {b : List UInt8} (w : World) (B c p n : Nat) (bad : Bool) (h : PCur w B c b p bad) :
  Calls Tryz.prog 42 #[.pointer (some ⟨c, 0, none⟩), .int .i64 (n : Int)] w fun e w' => ∃ v, e = .returned v ∧ w'.ownsRow w.heap.size 5 1 v (rwL b p bad n).length ((rwL b p bad n).map bval) ∧ PCur w' B c b (rwP b p bad n) (rwB b p bad n) ∧ w.grownBy w' (some c) := by
 cases hr : rwB b p bad n with
 | true =>
  have e1 : rwL b p bad n = [] := by unfold rwL; rw [hr]; rfl
  have e2 : rwP b p bad n = p := by unfold rwP; rw [hr]; rfl
  rw [e1, e2]
  unfold rwB at hr
  rw [Bool.or_eq_true, decide_eq_true_iff] at hr
  refine (praw_no w B c b p bad n h ?_).mono ?_
  ·rcases hr with h | h
   ·exact Or.inl h
   ·exact Or.inr (Or.inr (by omega))
  ·rintro e w' ⟨v, rfl, h1, h2, h3⟩
   exact ⟨v, rfl, h1, h2, h3⟩
 | false =>
  have e1 : rwL b p bad n = (b.drop p).take n := by unfold rwL; rw [hr]; rfl
  have e2 : rwP b p bad n = p + n := by unfold rwP; rw [hr]; rfl
  unfold rwB at hr
  rw [Bool.or_eq_false_iff, decide_eq_false_iff_not] at hr
  obtain ⟨rfl, hr⟩ := hr
  rw [e1, e2]
  refine (praw_yes w B c b p n h (by omega)).mono ?_
  rintro e w' ⟨v, rfl, h1, h2, h3⟩
  exact ⟨v, rfl, by rw [show ((b.drop p).take n).length = n from by rw [List.length_take, List.length_drop]; omega]; exact h1, h2, h3⟩
theorem pcur_int {b : List UInt8} (w : World) (B c p : Nat) (bad : Bool) (h : PCur w B c b p bad) :
  Calls Tryz.prog 43 #[.pointer (some ⟨c, 0, none⟩)] w fun e w' => e = .returned (.int .i64 (rwI b p bad)) ∧ PCur w' B c b (rwP b p bad 8) (rwB b p bad 8) ∧ w.grownBy w' (some c) := by
 cases hr : rwB b p bad 8 with
 | true =>
  have e1 : rwI b p bad = 0 := by unfold rwI; rw [hr]; rfl
  have e2 : rwP b p bad 8 = p := by unfold rwP; rw [hr]; rfl
  rw [e1, e2]
  unfold rwB at hr
  rw [Bool.or_eq_true, decide_eq_true_iff] at hr
  exact pint_no w B c b p bad h hr
 | false =>
  have e1 : rwI b p bad = decI ((b.drop p).take 8) := by unfold rwI; rw [hr]; rfl
  have e2 : rwP b p bad 8 = p + 8 := by unfold rwP; rw [hr]; rfl
  unfold rwB at hr
  rw [Bool.or_eq_false_iff, decide_eq_false_iff_not] at hr
  obtain ⟨rfl, hr⟩ := hr
  rw [e1, e2]
  exact pint_yes w B c b p h (by omega)
theorem readS_said (b : List UInt8) : readS b = if rwL b 0 false 4 = [80, 67, 83, 84] ∧ (!rwB b (rwP b (rwP b 0 false 4) (rwB b 0 false 4) 8) (rwB b (rwP b 0 false 4) (rwB b 0 false 4) 8) 64 && decide (rwP b (rwP b (rwP b 0 false 4) (rwB b 0 false 4) 8) (rwB b (rwP b 0 false 4) (rwB b 0 false 4) 8) 64 = b.length)) = true ∧ smallB (rwI b (rwP b 0 false 4) (rwB b 0 false 4)) = true then
  some (rwI b (rwP b 0 false 4) (rwB b 0 false 4), rwL b (rwP b (rwP b 0 false 4) (rwB b 0 false 4) 8) (rwB b (rwP b 0 false 4) (rwB b 0 false 4) 8) 64) else none := by
 rw [readS_cur]
 split
 ·next h =>
  have h2 := h.2.1
  rw [Bool.and_eq_true, Bool.not_eq_true'] at h2
  rw [if_neg (by rw [h2.1]; simp)]
 ·rfl
theorem rwL_len {b : List UInt8} {p n : Nat} {bad : Bool} (h : rwB b p bad n = false) : (rwL b p bad n).length = n := by
 unfold rwL
 rw [h]
 unfold rwB at h
 rw [Bool.or_eq_false_iff, decide_eq_false_iff_not] at h
 simp
 omega
theorem cReadStop_any (b : List UInt8) (bv : Value) (w : World) (hb : Row1 w bv (b.map bval)) (hsz : b.length ≤ 1099511627776) :
  Calls Tryz.prog 23 #[bv] w fun e w' => e = .returned (.tuple #[.agg (stopC (rdI b) (rdG b)).toArray, .int .i64 (rdE b)]) ∧ Below w.heap.size w w' := by
 obtain ⟨ab, cb, hbv, hb1, hb2, _⟩ := id hb
 rw [List.length_map] at hbv hb1
 subst hbv
 have HV := jh hb
 have HS := jh hsz
 have HB0 := jh (Blk.made w (stopC 0 z64) 39)
 have HE0 := jh (Ext.alloc w (.cells (stopC 0 z64).toArray 39))
 have HZS := jh (zcj (id := 0) zbi)
 clear hb hsz
 go_enter Tryz.func23, Tryz.ntmps23
 go_upto_region 1 with (fail)
 change Code.wp _ _ _ _ (w.alloc (.cells (stopC 0 z64).toArray 39))
 generalize w.alloc (.cells (stopC 0 z64).toArray 39) = wa at *
 obtain ⟨C, hC⟩ : ∃ C, C = w.heap.size := ⟨_, rfl⟩
 have HLC : Hid (w.heap.size ≤ C) := jh (by omega)
 rw [← hC] at HB0 ⊢
 clear hC
 have HN := jh (pnew _ b wa (HV.out.below HE0.out) HS.out)
 go_wp2_with fail
 refine HN.out.mono ?_
 rintro e w1 ⟨B, K, rfl, hk, hlk, hx⟩
 have HK := jh hk
 have HC := jh (zaa HB0.out hx)
 have HE := jh (HE0.out.trans hx)
 have HCK : Hid (C < K) := jh (Nat.lt_of_lt_of_le HB0.out.lt hlk)
 have HLK : Hid (w.heap.size ≤ K) := jh (Nat.le_trans HE0.out.size hlk)
 clear hk hlk hx HB0 HE0 HN
 have HR := jh (pcur_raw (b := b) w1 B K 0 4 false HK.out)
 obtain ⟨tl, htl⟩ : ∃ tl, tl = rwL b 0 false 4 := ⟨_, rfl⟩
 obtain ⟨p1, hp1⟩ : ∃ p1, p1 = rwP b 0 false 4 := ⟨_, rfl⟩
 obtain ⟨d1, hd1⟩ : ∃ d1, d1 = rwB b 0 false 4 := ⟨_, rfl⟩
 rw [← htl, ← hp1, ← hd1] at HR
 have HTL := jh htl
 have HP1 := jh hp1
 have HD1 := jh hd1
 clear htl hp1 hd1
 go_wp2_with fail
 refine HR.out.mono ?_
 rintro e w2 ⟨tv, rfl, ht, hk, hg⟩
 have HTO : Hid (∀ k, tv.ownBlock = some k → K < k) := jh (fun k h => Nat.lt_of_lt_of_le (Nat.lt_of_lt_of_le HK.out.lt.1 HK.out.lt.2) (ht.lt k h).1)
 have HT := jh (Row1.of_own ht)
 have HK := jh hk
 have HC := jh (HC.out.grown hg (by have := HCK.out; simp; omega))
 have HE := jh (zad HE.out hg HLK.out)
 clear ht hk hg HR
 have HI := jh (pcur_int (b := b) w2 B K p1 d1 HK.out)
 obtain ⟨n1, hn1⟩ : ∃ n1, n1 = rwI b p1 d1 := ⟨_, rfl⟩
 obtain ⟨p2, hp2⟩ : ∃ p2, p2 = rwP b p1 d1 8 := ⟨_, rfl⟩
 obtain ⟨d2, hd2⟩ : ∃ d2, d2 = rwB b p1 d1 8 := ⟨_, rfl⟩
 rw [← hn1, ← hp2, ← hd2] at HI
 have HN1 := jh hn1
 have HP2 := jh hp2
 have HD2 := jh hd2
 clear hn1 hp2 hd2
 go_wp2_with fail
 refine HI.out.mono ?_
 rintro e w3 ⟨rfl, hk, hg⟩
 have HK := jh hk
 have HT := jh (HT.out.grown hg (fun k hk2 h => by have := HTO.out k h; have h2 : K = k := Option.some.inj hk2; omega))
 have HC := jh (HC.out.grown hg (by have := HCK.out; simp; omega))
 have HE := jh (zad HE.out hg HLK.out)
 clear hk hg HI
 have HR := jh (pcur_raw (b := b) w3 B K p2 64 d2 HK.out)
 have HRN : Hid (rwB b p2 d2 64 = false → (rwL b p2 d2 64).length = 64) := jh rwL_len
 have HCUR := jh (readS_said b)
 obtain ⟨rl, hrl⟩ : ∃ rl, rl = rwL b p2 d2 64 := ⟨_, rfl⟩
 obtain ⟨p3, hp3⟩ : ∃ p3, p3 = rwP b p2 d2 64 := ⟨_, rfl⟩
 obtain ⟨d3, hd3⟩ : ∃ d3, d3 = rwB b p2 d2 64 := ⟨_, rfl⟩
 rw [← HTL.out, ← HP1.out, ← HD1.out, ← HN1.out, ← HP2.out, ← HD2.out, ← hrl, ← hp3, ← hd3] at HCUR
 rw [← hrl, ← hp3, ← hd3] at HR
 rw [← hrl, ← hd3] at HRN
 clear hrl hp3 hd3 HTL HP1 HD1 HN1 HP2 HD2
 go_wp2_with fail
 refine HR.out.mono ?_
 rintro e w4 ⟨rv, rfl, hr, hk, hg⟩
 obtain ⟨ar, cr, hrv, _⟩ := id (Row1.of_own hr)
 rw [List.length_map] at hrv
 subst hrv
 have HRR := jh (Row1.of_own hr)
 have HK := jh hk
 have HT := jh (HT.out.grown hg (fun k hk2 h => by have := HTO.out k h; have h2 : K = k := Option.some.inj hk2; omega))
 have HC := jh (HC.out.grown hg (by have := HCK.out; simp; omega))
 have HE := jh (zad HE.out hg HLK.out)
 clear hr hk hg HR HTO
 have HEND := jh (pend w4 B K b p3 d3 HK.out)
 obtain ⟨en, hen⟩ : ∃ en, en = (!d3 && decide (p3 = b.length)) := ⟨_, rfl⟩
 rw [← hen] at HEND HCUR
 have HEN := jh hen
 clear hen
 go_wp2_with fail
 refine HEND.out.mono ?_
 rintro e w5 ⟨rfl, kk, rfl⟩
 have HC := jh (HC.out.drewN kk)
 have HT := jh (HT.out.below (show Below w4.heap.size w4 (w4.drewN kk) from zfc (Below.refl _ _) kk))
 have HRR := jh (HRR.out.below (show Below w4.heap.size w4 (w4.drewN kk) from zfc (Below.refl _ _) kk))
 have HE := jh (zfc HE.out kk)
 generalize w4.drewN kk = w5 at *
 clear HEND HK
 have NO := jh (fun (h : ¬ (tl = [80, 67, 83, 84] ∧ en = true ∧ smallB n1 = true)) => rd_no (b := b) (by rw [HCUR.out, if_neg h]))
 cases en with
 | false =>
  have HQ := jh (NO.out (fun h => by cases h.2.1))
  clear HCUR HEN NO
  go_wp2_with (first | (refine zaw rfl _ _ rfl _ rfl _ (zei _) ?_) | (refine zab rfl _ _ _ rfl C (stopC 0 z64) rfl rfl _ _ HC.out rfl HZS.out (zcd _ _) ?_; intro w9 hb9 hg9))
  refine bodyPost_ret (zar rfl _ C _ _ _ rfl hb9 Tryz.underlying39 rfl HZS.out) rfl ?_
  exact ⟨by rw [HQ.out.1, HQ.out.2.1, HQ.out.2.2]; rfl, zad HE.out hg9 HLC.out⟩
 | true =>
  have hsr := zdz (P := Tryz.prog) (v := tv) 46 9 5 Tryz.underlying46 Tryz.underlying5 Tryz.underlying9 HT.out
  by_cases hm : tl = [80, 67, 83, 84]
  ·subst hm
   have HSM := jh (cid_any n1 w5)
   obtain ⟨sm, hsm⟩ : ∃ sm, sm = smallB n1 := ⟨_, rfl⟩
   rw [← hsm] at HSM NO HCUR
   have HSB := jh hsm
   clear hsm
   go_wp2_with fail
   refine HSM.out.mono ?_
   rintro e w6 ⟨rfl, rfl⟩
   clear HSM hsr HT
   cases sm with
   | false =>
    have HQ := jh (NO.out (fun h => by cases h.2.2))
    clear HCUR HEN NO
    go_wp2_with (first | (refine zaw rfl _ _ rfl _ rfl _ (zei _) ?_) | (refine zab rfl _ _ _ rfl C (stopC 0 z64) rfl rfl _ _ HC.out rfl HZS.out (zcd _ _) ?_; intro w9 hb9 hg9))
    refine bodyPost_ret (zar rfl _ C _ _ _ rfl hb9 Tryz.underlying39 rfl HZS.out) rfl ?_
    exact ⟨by rw [HQ.out.1, HQ.out.2.1, HQ.out.2.2]; rfl, zad HE.out hg9 HLC.out⟩
   | true =>
    have HQ := jh (rd_yes (b := b) (x := (n1, rl)) (by rw [HCUR.out, if_pos (by simp)]))
    have hd3 : d3 = false := by
     have h := HEN.out
     cases d3 with
     | false => rfl
     | true => simp at h
    have HGL : Hid (rl.length = 64) := jh (HRN.out hd3)
    clear HCUR HEN NO HRN
    rw [HGL.out] at HRR ⊢
    obtain ⟨rb, ro, har, hrr⟩ := row_range HRR.out (by intro e; have := congrArg List.length e; rw [List.length_map, HGL.out] at this; cases this)
    subst har
    have HRG := jh hrr
    clear hrr
    have hat := run_arr_at (P := Tryz.prog) Tryz.underlying26 (some ⟨rb, ro, none⟩) 64 cr (Nat.le_refl _)
    have HSZ := jh (zct HGL.out)
    go_wp2_with (first | (refine wpList_load_mid rfl _ _ rfl rb ro rfl _ _ HRG.out Tryz.underlying26 rfl HSZ.out ?_) | (refine zaw rfl 39 #[(0, .tmp 30), (1, .tmp 33)] rfl #[(0, .int .i64 n1), (1, .agg (rl.map bval).toArray)] (by simp [Act.eval, Act.put]) _ (build_stop n1 HGL.out _) ?_) | (refine zab rfl _ _ _ rfl C (stopC n1 rl) rfl rfl _ _ HC.out (by rw [zbt HGL.out, zbt zbi]) (zcj HGL.out) (zcd _ _) ?_; intro w9 hb9 hg9))
    refine bodyPost_ret (zar rfl _ C _ _ _ rfl hb9 Tryz.underlying39 rfl (zcj HGL.out)) rfl ?_
    exact ⟨by rw [HQ.out.1, HQ.out.2.1, HQ.out.2.2]; rfl, zad HE.out hg9 HLC.out⟩
  ·have HQ := jh (NO.out (fun h => hm h.1))
   have hm2 : (tl == [80, 67, 83, 84]) = false := by simpa using hm
   clear HCUR NO
   go_wp2_with (first | (refine zaw rfl _ _ rfl _ rfl _ (zei _) ?_) | (refine zab rfl _ _ _ rfl C (stopC 0 z64) rfl rfl _ _ HC.out rfl HZS.out (zcd _ _) ?_; intro w9 hb9 hg9))
   refine bodyPost_ret (zar rfl _ C _ _ _ rfl hb9 Tryz.underlying39 rfl HZS.out) rfl ?_
   exact ⟨by rw [HQ.out.1, HQ.out.2.1, HQ.out.2.2]; rfl, zad HE.out hg9 HLC.out⟩
theorem crtSaid : CrtSaid CMG where
 ext := fun h hb => h.ext hb
 sign := fun root key sid w hr hk _ hG => cSign_any root key sid w hr hk hG
 check := fun pub key sig sid w hp hk hs _ hG => cCheck_any pub key sig sid w hp hk hs hG
 stop := fun root sid w hr _ hG => cStop_any root sid w hr hG
 checkStop := fun pub sig sid w hp hs _ hG => cCheckStop_any pub sig sid w hp hs hG
 pack := fun sig sid w hs _ _ => cPackStop_any sig sid w hs
 read := fun b bv w hb hl _ => cReadStop_any b bv w hb (by omega)
end Go.Proofs.YthafgicndklgfaaGreatDoor
