/- Texts that belong together, one behind the other. -/
import Derived.Test.YthafgicndklgfaaGreatDoorQz14
import Derived.Test.YthafgicndklgfaaGreatDoorQz23
namespace Go.Proofs.YthafgicndklgfaaGreatDoor
set_option linter.unusedVariables false
set_option maxRecDepth 100000
set_option maxHeartbeats 32000000
set_option linter.unusedSimpArgs false
open Go.RowKit
theorem written_as {v : Value} {l l' : List UInt8} {w : World} (h : l = l') (hc : Calls Tryz.prog 35 #[v] w fun e w' => e = .returned (.agg (l.map bval).toArray) ∧ Below w.heap.size w w') : Calls Tryz.prog 35 #[v] w fun e w' => e = .returned (.agg (l'.map bval).toArray) ∧ Below w.heap.size w w' := by
 subst h
 exact hc
theorem add_as {x y : Value} {l l' : List UInt8} {w : World} (h : l = l') (hc : Calls Tryz.prog 59 #[x, y] w fun e w' => e = .returned (.agg (l.map bval).toArray) ∧ Below w.heap.size w w') : Calls Tryz.prog 59 #[x, y] w fun e w' => e = .returned (.agg (l'.map bval).toArray) ∧ Below w.heap.size w w' := by
 subst h
 exact hc
theorem wide_two (x y : Value) (l m o : List UInt8) (w : World) (hx : Row1 w x (l.map bval)) (hy : Row1 w y (m.map bval)) (hf : l ++ m = o) (hl : o.length ≤ 1099511627776) (hK : GlobK5 w) (hO : GlobO w) :
  Calls Tryz.prog 58 #[.slice (some ⟨w.heap.size, 0, none⟩) 2 2] (w.alloc (.cells #[x, y] 46)) fun e w' => e = .returned (.agg ((wideB o).map bval).toArray) ∧ Ext w w' := by
 have he := Ext.alloc w (.cells #[x, y] 46)
 have h := rwide_v _ [l, m] o _ (rowB2 (Row1.made w #[x, y] 46 _ 2 [x, y] rfl rfl rfl (by unfold maxLen; omega)) (hx.below he) (hy.below he)) (by rw [← hf]; simp) hl (hK.ext he) (hO.ext he)
 refine h.mono fun e w' hh => ?_
 exact ⟨hh.1, he.trans hh.2⟩
theorem lay_two {r s : List UInt8} (hr : r.length = 32) (hs : s.length = 32) : splice ((r ++ List.replicate 32 (0 : UInt8)).map bval) 32 (s.map bval) = ((r ++ s).map bval) := by
 rw [splice_bytes, hs]
 congr 1
 rw [List.take_append_of_le_length (by omega), List.take_of_length_le (by omega), List.drop_eq_nil_of_le (by simp [hr]), List.append_nil]
theorem lay_one {r : List UInt8} (hr : r.length = 32) : splice ((List.replicate 64 (0 : UInt8)).map bval) 0 (r.map bval) = ((r ++ List.replicate 32 (0 : UInt8)).map bval) := by
 rw [splice_bytes, hr]
 simp
theorem rsign_f (s m : List UInt8) (bv : Value) (w : World) (hs : s.length = 32) (hb : Row1 w bv (m.map bval)) (hm : m.length ≤ 1000000000000) (hK : GlobK5 w) (hO : GlobO w) (hD : GlobD w) (hX : GlobX w) (hY : GlobY w) :
  Calls Tryz.prog 31 #[.agg (s.map bval).toArray, bv] w fun e w' => e = .returned (.agg ((edSign s m).map bval).toArray) ∧ Below w.heap.size w w' := by
 obtain ⟨iq, hq0, hq1, hq2⟩ := info_two (P := Tryz.prog) (t := 46) (z := .slice none 0 0) (n := 1) (by kernel_rfl)
 have HQ0 := jh hq0
 have HQ1 := jh hq1
 have HQ2 := jh hq2
 obtain ⟨am, cm, hbv, _⟩ := id hb
 rw [List.length_map] at hbv
 subst hbv
 have HM0 := jh hb
 have HML := jh hm
 have HSL := jh hs
 have HGK := jh hK
 have HGO := jh hO
 have HGD := jh hD
 have HGX := jh hX
 have HGY := jh hY
 have HB := jh (boxes2 w (s.map bval) (ints .u8 (List.replicate 64 0)) 23 26)
 clear hq0 hq1 hq2 hs hb hm hK hO hD hX hY
 go_enter Tryz.func31, Tryz.ntmps31
 go_upto_region 1 with (fail)
 obtain ⟨H1, H2, HE⟩ := HB.out
 change Code.wp _ _ _ _ ((w.alloc (.cells (s.map bval).toArray 23)).alloc (.cells (ints .u8 (List.replicate 64 0)).toArray 26))
 generalize (w.alloc (.cells (s.map bval).toArray 23)).alloc (.cells (ints .u8 (List.replicate 64 0)).toArray 26) = wa at *
 obtain ⟨A, hA⟩ : ∃ A, A = w.heap.size := ⟨_, rfl⟩
 have HOA : Hid (w.heap.size ≤ A) := jh (by omega)
 rw [← hA] at H1 H2 ⊢
 have HS := jh H1
 have HR := jh H2
 have HE : Hid (Ext w wa) := jh HE
 clear hA HB H1 H2
 have HAL : Hid ((secA s).length = 32) := jh (by unfold secA; exact zdl (by rw [List.length_take, zcg]; rfl))
 have HHL : Hid ((secH s).length = 32) := jh (by unfold secH; rw [List.length_drop, zcg])
 have HNU : Hid (wideB (secH s ++ m) = edNum s m) := jh rfl
 have HRD : Hid (encB (pmul (leN (edNum s m)) bP) = edR s m) := jh rfl
 have HSD : Hid (nq ((leN (edNum s m) : Nat) + (leN (nq ((leN (wideB (edR s m ++ (edPub s ++ m))) : Nat) * (leN (secA s) : Nat))) : Nat)) = edS s m) := jh rfl
 have HSG : Hid (edR s m ++ edS s m = edSign s m) := jh rfl
 have HNL : Hid ((edNum s m).length = 32) := jh (zbw _)
 have HRL := jh (edR_length s m)
 have HPL := jh (edPub_length s)
 have HSSL := jh (edS_length s m)
 have HGL := jh (zeo s m)
 have HPA := jh (fun w h => rparts_f s w HSL.out h)
 have HPU := jh (fun w h1 h2 h3 h4 => rpublic_f s w HSL.out h1 h2 h3 h4)
 obtain ⟨kk, hkk⟩ : ∃ kk, kk = wideB (edR s m ++ (edPub s ++ m)) := ⟨_, rfl⟩
 have HKL : Hid (kk.length = 32) := jh (by rw [hkk]; exact zbw _)
 rw [← hkk] at HSD
 have HKE := jh hkk
 clear hkk
 obtain ⟨sg, hsg⟩ : ∃ sg, sg = edSign s m := ⟨_, rfl⟩
 rw [← hsg] at HSG HGL
 have HSGE := jh hsg
 clear hsg
 generalize secA s = a at *
 generalize secH s = hh at *
 generalize edNum s m = nu at *
 generalize edR s m = rd at *
 generalize edPub s = pb at *
 generalize edS s m = sd at *
 go_wp2_with (refine zae rfl _ _ rfl A rfl _ _ _ _ HS.out Tryz.underlying23 (zaf HSL.out) ?_)
 refine (HPA.out _ (HGK.out.ext HE.out)).mono ?_
 rintro e wb ⟨x, rfl, hx, hb⟩
 have HS := jh (zaa HS.out hb)
 have HR := jh (zaa HR.out hb)
 have HE := jh (HE.out.trans hb)
 obtain ⟨ax, cx, hxv, _⟩ := id hx
 rw [List.length_map, HHL.out] at hxv
 subst hxv
 have HHR := jh hx
 clear hx hb HPA
 have HZ := jh (Blk.made wb (ints .u8 (List.replicate 32 0)) 23)
 have HEA := jh (Ext.alloc wb (.cells (ints .u8 (List.replicate 32 0)).toArray 23))
 have HL : Hid ((a.map bval).length = (ints .u8 (List.replicate 32 0)).length) := jh (by rw [List.length_map, HAL.out, zac]; rfl)
 go_upto_region 2 with (refine zab rfl _ _ _ rfl wb.heap.size (a.map bval) rfl rfl _ _ HZ.out HL.out (zaf HAL.out) (zaj _) ?_; intro w1 hb2 hg2)
 have HX := jh (zad HEA.out hg2 (Nat.le_refl _))
 obtain ⟨Ab, hT⟩ : ∃ T, T = wb.heap.size := ⟨_, rfl⟩
 have HOAb : Hid (A + 1 < Ab) := jh (by rw [hT]; exact HR.out.lt)
 rw [← hT] at hb2 ⊢
 have HAb := jh hb2
 have HS := jh (zaa HS.out HX.out)
 have HR := jh (zaa HR.out HX.out)
 have HE := jh (HE.out.trans HX.out)
 have HOA := jh (And.intro HOA.out HOAb.out)
 have HHR := jh (HHR.out.below HX.out)
 clear hb2 hg2 HZ HEA HX HL hT
 have HM1 := jh (HM0.out.below HE.out)
 go_wp2_with fail
 refine (wide_two _ _ hh m _ w1 HHR.out HM1.out rfl (by rw [List.length_append, HHL.out]; have := HML.out; omega) (HGK.out.ext HE.out) (HGO.out.ext HE.out)).mono ?_
 rintro e w2 ⟨rfl, hb⟩
 have HS := jh (zaa HS.out hb)
 have HR := jh (zaa HR.out hb)
 have HAb := jh (zaa HAb.out hb)
 have HE := jh (HE.out.trans hb)
 clear hb HHR HM1
 rw [HNU.out]
 have HZ := jh (Blk.made w2 (ints .u8 (List.replicate 32 0)) 23)
 have HEA := jh (Ext.alloc w2 (.cells (ints .u8 (List.replicate 32 0)).toArray 23))
 have HL : Hid ((nu.map bval).length = (ints .u8 (List.replicate 32 0)).length) := jh (by rw [List.length_map, HNL.out, zac]; rfl)
 go_upto_region 3 with (refine zab rfl _ _ _ rfl w2.heap.size (nu.map bval) rfl rfl _ _ HZ.out HL.out (zaf HNL.out) (zaj _) ?_; intro w3 hb2 hg2)
 have HX := jh (zad HEA.out hg2 (Nat.le_refl _))
 obtain ⟨Nb, hT⟩ : ∃ T, T = w2.heap.size := ⟨_, rfl⟩
 have HONb : Hid (Ab < Nb) := jh (by rw [hT]; exact HAb.out.lt)
 rw [← hT] at hb2 ⊢
 have HNb := jh hb2
 have HS := jh (zaa HS.out HX.out)
 have HR := jh (zaa HR.out HX.out)
 have HAb := jh (zaa HAb.out HX.out)
 have HE := jh (HE.out.trans HX.out)
 have HOA := jh (And.intro HOA.out HONb.out)
 clear hb2 hg2 HZ HEA HX HL hT
 have HIS := jh (erun_full (Pt.es_is bP) (m := 256) (n := leN nu) (by have := leN_lt nu; rw [HNL.out] at this; exact Nat.lt_of_lt_of_eq this (by decide +kernel)))
 have HRQ : Hid (encB (pmul (leN nu) bP) = rd) := HRD
 go_upto_region 3 with (fail)
 try simp only [Act.put, nrm]
 go_cut [8] from 22 to 25 (fun vq wq => ∃ g', vq = .pointer (some ⟨g', 0, none⟩) ∧ w3.heap.size ≤ g' ∧ Blk wq g' (rd.map bval) 23 ∧ Ext w3 wq)
 case first =>
  have B0 : Ext w3 w3.drew := Ext.drew _
  refine wp_region_held_drew (S := fun w' => Ext w3 w') (by kernel_rfl) B0 (fun hHeld => ?_)
  refine tke 1 (.agg ((nu).map bval).toArray) rfl (yieldsIf_load_mid (by rfl) _ _ rfl Nb 0 rfl _ _ (fun w h => zbe HNb.out h) Tryz.underlying23 rfl (zaf HNL.out)) hHeld ?_
  simp only [Act.put, nrm]
  refine wpAnyH_ready (rs := [0, 4]) (by kernel_rfl) (by simp) (AllReadyH.cons rfl (fun K hK => ?_) (AllReadyH.cons rfl (fun K hK => ?_) AllReadyH.nil))
  ·go_simp
   refine (rbase_f _ (HGX.out.ext (HE.out.trans B0)) (HGY.out.ext (HE.out.trans B0))).mono ?_
   rintro e m1 ⟨v1, rfl, e1, b1⟩
   obtain ⟨a1, c1, d1, g1, hz1, z1⟩ := e1
   subst hz1
   have N1 : Ext w3 m1 := B0.trans b1
   refine hK.out _ _ N1 (fun hHeld => ?_)
   clear hK K
   try simp only [Act.put, nrm]
   refine wpAnyH_ready (rs := [2, 4]) (by kernel_rfl) (by simp) (AllReadyH.cons rfl (fun K hK => ?_) (AllReadyH.cons rfl (fun K hK => ?_) AllReadyH.nil))
   ·go_simp
    refine (rmany_f _ bP.es nu _ (⟨_, _, _, _, rfl, z1⟩ : PtV _ (bP.es)) HNL.out (HGD.out.ext (HE.out.trans N1))).mono ?_
    rintro e m2 ⟨v2, rfl, e2, b2⟩
    obtain ⟨a2, c2, d2, g2, hz2, z2⟩ := e2
    subst hz2
    have N2 : Ext w3 m2 := N1.trans b2
    refine hK.out _ _ N2 (fun hHeld => ?_)
    clear hK K
    try simp only [Act.put, nrm]
    refine wpAnyH_ready (rs := [3, 4]) (by kernel_rfl) (by simp) (AllReadyH.cons rfl (fun K hK => ?_) (AllReadyH.cons rfl (fun K hK => ?_) AllReadyH.nil))
    ·go_simp
     refine (written_as HRD.out (rwritten_f _ _ (pmul (leN nu) bP) _ (⟨_, _, _, _, rfl, z2⟩ : PtV _ (erun 256 bP.es (leN nu) 256)) HIS.out)).mono ?_
     rintro e m3 ⟨rfl, b3⟩
     have N3 : Ext w3 m3 := N2.trans b3
     refine hK.out _ _ N3 (fun hHeld => ?_)
     clear hK K
     try simp only [Act.put, nrm]
     refine rdy 4 rfl fun K hK => ?_
     refine zan (by rfl) ?_
     refine zax (some 8) _ zero32 rfl rfl Tryz.zeroValue23 ?_
     obtain ⟨m4, hm4⟩ : ∃ wNew, wNew = World.alloc m3 (.cells (zero32).toArray 23) := ⟨_, rfl⟩
     rw [← hm4]
     have b4 : Ext m3 m4 := by rw [hm4]; exact Ext.alloc _ _
     obtain ⟨g4, hg4⟩ : ∃ gNew, gNew = (m3).heap.size := ⟨_, rfl⟩
     rw [← hg4]
     have z4 : Blk m4 g4 zero32 23 := by rw [hm4, hg4]; exact Blk.made _ _ _
     have l4 : (w3).heap.size ≤ g4 := by rw [hg4]; exact N3.size
     clear hm4 hg4
     have N4 : Ext w3 m4 := N3.trans b4
     refine hK.out _ _ N4 (fun hHeld => ?_)
     clear hK K
     try simp only [Act.put, nrm]
     refine rdy 5 rfl fun K hK => ?_
     refine zan (by rfl) ?_
     refine zak _ _ _ rfl g4 ((rd).map bval) rfl rfl _ _ z4 (by rw [List.length_map, HRL.out]; rfl) (zaf (HRL.out)) (zaj _) ?_
     intro m5 hb5 hg5
     have N5 : Ext w3 m5 := zad N4 hg5 l4
     refine hK.out _ _ N5 (fun hHeld => ?_)
     clear hK K
     try simp only [Act.put, nrm]
     refine dne ?_
     go_wp2_with fail
     go_meet
     exact ⟨_, rfl, l4, hb5, N5⟩
    ·refine zan (by rfl) ?_
     refine zax (some 8) _ zero32 rfl rfl Tryz.zeroValue23 ?_
     obtain ⟨m3, hm3⟩ : ∃ wNew, wNew = World.alloc m2 (.cells (zero32).toArray 23) := ⟨_, rfl⟩
     rw [← hm3]
     have b3 : Ext m2 m3 := by rw [hm3]; exact Ext.alloc _ _
     obtain ⟨g3, hg3⟩ : ∃ gNew, gNew = (m2).heap.size := ⟨_, rfl⟩
     rw [← hg3]
     have z3 : Blk m3 g3 zero32 23 := by rw [hm3, hg3]; exact Blk.made _ _ _
     have l3 : (w3).heap.size ≤ g3 := by rw [hg3]; exact N2.size
     clear hm3 hg3
     have N3 : Ext w3 m3 := N2.trans b3
     refine hK.out _ _ N3 (fun hHeld => ?_)
     clear hK K
     try simp only [Act.put, nrm]
     refine rdy 3 rfl fun K hK => ?_
     go_simp
     refine (written_as HRD.out (rwritten_f _ _ (pmul (leN nu) bP) _ (⟨_, _, _, _, rfl, z2⟩ : PtV _ (erun 256 bP.es (leN nu) 256)) HIS.out)).mono ?_
     rintro e m4 ⟨rfl, b4⟩
     have z3 := z3.below b4
     have N4 : Ext w3 m4 := N3.trans b4
     refine hK.out _ _ N4 (fun hHeld => ?_)
     clear hK K
     try simp only [Act.put, nrm]
     refine rdy 5 rfl fun K hK => ?_
     refine zan (by rfl) ?_
     refine zak _ _ _ rfl g3 ((rd).map bval) rfl rfl _ _ z3 (by rw [List.length_map, HRL.out]; rfl) (zaf (HRL.out)) (zaj _) ?_
     intro m5 hb5 hg5
     have N5 : Ext w3 m5 := zad N4 hg5 l3
     refine hK.out _ _ N5 (fun hHeld => ?_)
     clear hK K
     try simp only [Act.put, nrm]
     refine dne ?_
     go_wp2_with fail
     go_meet
     exact ⟨_, rfl, l3, hb5, N5⟩
   ·refine zan (by rfl) ?_
    refine zax (some 8) _ zero32 rfl rfl Tryz.zeroValue23 ?_
    obtain ⟨m2, hm2⟩ : ∃ wNew, wNew = World.alloc m1 (.cells (zero32).toArray 23) := ⟨_, rfl⟩
    rw [← hm2]
    have b2 : Ext m1 m2 := by rw [hm2]; exact Ext.alloc _ _
    obtain ⟨g2, hg2⟩ : ∃ gNew, gNew = (m1).heap.size := ⟨_, rfl⟩
    rw [← hg2]
    have z2 : Blk m2 g2 zero32 23 := by rw [hm2, hg2]; exact Blk.made _ _ _
    have l2 : (w3).heap.size ≤ g2 := by rw [hg2]; exact N1.size
    clear hm2 hg2
    have N2 : Ext w3 m2 := N1.trans b2
    refine hK.out _ _ N2 (fun hHeld => ?_)
    clear hK K
    try simp only [Act.put, nrm]
    refine rdy 2 rfl fun K hK => ?_
    go_simp
    refine (rmany_f _ bP.es nu _ (⟨_, _, _, _, rfl, z1⟩ : PtV _ (bP.es)) HNL.out (HGD.out.ext (HE.out.trans N2))).mono ?_
    rintro e m3 ⟨v3, rfl, e3, b3⟩
    obtain ⟨a3, c3, d3, g3, hz3, z3⟩ := e3
    subst hz3
    have z2 := z2.below b3
    have N3 : Ext w3 m3 := N2.trans b3
    refine hK.out _ _ N3 (fun hHeld => ?_)
    clear hK K
    try simp only [Act.put, nrm]
    refine rdy 3 rfl fun K hK => ?_
    go_simp
    refine (written_as HRD.out (rwritten_f _ _ (pmul (leN nu) bP) _ (⟨_, _, _, _, rfl, z3⟩ : PtV _ (erun 256 bP.es (leN nu) 256)) HIS.out)).mono ?_
    rintro e m4 ⟨rfl, b4⟩
    have z2 := z2.below b4
    have N4 : Ext w3 m4 := N3.trans b4
    refine hK.out _ _ N4 (fun hHeld => ?_)
    clear hK K
    try simp only [Act.put, nrm]
    refine rdy 5 rfl fun K hK => ?_
    refine zan (by rfl) ?_
    refine zak _ _ _ rfl g2 ((rd).map bval) rfl rfl _ _ z2 (by rw [List.length_map, HRL.out]; rfl) (zaf (HRL.out)) (zaj _) ?_
    intro m5 hb5 hg5
    have N5 : Ext w3 m5 := zad N4 hg5 l2
    refine hK.out _ _ N5 (fun hHeld => ?_)
    clear hK K
    try simp only [Act.put, nrm]
    refine dne ?_
    go_wp2_with fail
    go_meet
    exact ⟨_, rfl, l2, hb5, N5⟩
  ·refine zan (by rfl) ?_
   refine zax (some 8) _ zero32 rfl rfl Tryz.zeroValue23 ?_
   obtain ⟨m1, hm1⟩ : ∃ wNew, wNew = World.alloc w3.drew (.cells (zero32).toArray 23) := ⟨_, rfl⟩
   rw [← hm1]
   have b1 : Ext w3.drew m1 := by rw [hm1]; exact Ext.alloc _ _
   obtain ⟨g1, hg1⟩ : ∃ gNew, gNew = (w3.drew).heap.size := ⟨_, rfl⟩
   rw [← hg1]
   have z1 : Blk m1 g1 zero32 23 := by rw [hm1, hg1]; exact Blk.made _ _ _
   have l1 : (w3).heap.size ≤ g1 := by rw [hg1]; exact B0.size
   clear hm1 hg1
   have N1 : Ext w3 m1 := B0.trans b1
   refine hK.out _ _ N1 (fun hHeld => ?_)
   clear hK K
   try simp only [Act.put, nrm]
   refine rdy 0 rfl fun K hK => ?_
   go_simp
   refine (rbase_f _ (HGX.out.ext (HE.out.trans N1)) (HGY.out.ext (HE.out.trans N1))).mono ?_
   rintro e m2 ⟨v2, rfl, e2, b2⟩
   obtain ⟨a2, c2, d2, g2, hz2, z2⟩ := e2
   subst hz2
   have z1 := z1.below b2
   have N2 : Ext w3 m2 := N1.trans b2
   refine hK.out _ _ N2 (fun hHeld => ?_)
   clear hK K
   try simp only [Act.put, nrm]
   refine rdy 2 rfl fun K hK => ?_
   go_simp
   refine (rmany_f _ bP.es nu _ (⟨_, _, _, _, rfl, z2⟩ : PtV _ (bP.es)) HNL.out (HGD.out.ext (HE.out.trans N2))).mono ?_
   rintro e m3 ⟨v3, rfl, e3, b3⟩
   obtain ⟨a3, c3, d3, g3, hz3, z3⟩ := e3
   subst hz3
   have z1 := z1.below b3
   have N3 : Ext w3 m3 := N2.trans b3
   refine hK.out _ _ N3 (fun hHeld => ?_)
   clear hK K
   try simp only [Act.put, nrm]
   refine rdy 3 rfl fun K hK => ?_
   go_simp
   refine (written_as HRD.out (rwritten_f _ _ (pmul (leN nu) bP) _ (⟨_, _, _, _, rfl, z3⟩ : PtV _ (erun 256 bP.es (leN nu) 256)) HIS.out)).mono ?_
   rintro e m4 ⟨rfl, b4⟩
   have z1 := z1.below b4
   have N4 : Ext w3 m4 := N3.trans b4
   refine hK.out _ _ N4 (fun hHeld => ?_)
   clear hK K
   try simp only [Act.put, nrm]
   refine rdy 5 rfl fun K hK => ?_
   refine zan (by rfl) ?_
   refine zak _ _ _ rfl g1 ((rd).map bval) rfl rfl _ _ z1 (by rw [List.length_map, HRL.out]; rfl) (zaf (HRL.out)) (zaj _) ?_
   intro m5 hb5 hg5
   have N5 : Ext w3 m5 := zad N4 hg5 l1
   refine hK.out _ _ N5 (fun hHeld => ?_)
   clear hK K
   try simp only [Act.put, nrm]
   refine dne ?_
   go_wp2_with fail
   go_meet
   exact ⟨_, rfl, l1, hb5, N5⟩
 case rest =>
 obtain ⟨Rb, rfl, hge, hBb, hX⟩ := hcut
 have HORb : Hid (Nb < Rb) := jh (Nat.lt_of_lt_of_le HNb.out.lt hge)
 have HRb := jh hBb
 have HS := jh (zaa HS.out hX)
 have HR := jh (zaa HR.out hX)
 have HAb := jh (zaa HAb.out hX)
 have HNb := jh (zaa HNb.out hX)
 have HE := jh (HE.out.trans hX)
 have HOA := jh (And.intro HOA.out HORb.out)
 clear hge hBb hX
 generalize wc = w4 at *
 go_wp2_with (refine zae rfl _ _ rfl A rfl _ _ _ _ HS.out Tryz.underlying23 (zaf HSL.out) ?_)
 refine (HPU.out _ (HGK.out.ext HE.out) (HGD.out.ext HE.out) (HGX.out.ext HE.out) (HGY.out.ext HE.out)).mono ?_
 rintro e w5 ⟨rfl, hb⟩
 have HR := jh (zaa HR.out hb)
 have HAb := jh (zaa HAb.out hb)
 have HNb := jh (zaa HNb.out hb)
 have HRb := jh (zaa HRb.out hb)
 have HE := jh (HE.out.trans hb)
 clear hb HS HPU
 have HZ := jh (Blk.made w5 (ints .u8 (List.replicate 32 0)) 23)
 have HEA := jh (Ext.alloc w5 (.cells (ints .u8 (List.replicate 32 0)).toArray 23))
 have HL : Hid ((pb.map bval).length = (ints .u8 (List.replicate 32 0)).length) := jh (by rw [List.length_map, HPL.out, zac]; rfl)
 go_upto_region 5 with (refine zab rfl _ _ _ rfl w5.heap.size (pb.map bval) rfl rfl _ _ HZ.out HL.out (zaf HPL.out) (zaj _) ?_; intro w6 hb2 hg2)
 have HX := jh (zad HEA.out hg2 (Nat.le_refl _))
 obtain ⟨Pb, hT⟩ : ∃ T, T = w5.heap.size := ⟨_, rfl⟩
 have HOPb : Hid (Rb < Pb) := jh (by rw [hT]; exact HRb.out.lt)
 rw [← hT] at hb2 ⊢
 have HPb := jh hb2
 have HR := jh (zaa HR.out HX.out)
 have HAb := jh (zaa HAb.out HX.out)
 have HNb := jh (zaa HNb.out HX.out)
 have HRb := jh (zaa HRb.out HX.out)
 have HE := jh (HE.out.trans HX.out)
 have HOA := jh (And.intro HOA.out HOPb.out)
 clear hb2 hg2 HZ HEA HX HL hT
 have HM9 := jh (HM0.out.below HE.out)
 have HWD : Hid (∀ v w', Ext w6 w' → RowB w' v [rd, pb, m] → Calls Tryz.prog 58 #[v] w' fun e w'' => e = .returned (.agg (kk.map bval).toArray) ∧ Below w'.heap.size w' w'') := jh (fun v w' he hv => by rw [HKE.out]; exact rwide_v v _ _ w' hv (by simp) (by simp only [List.length_append, HRL.out, HPL.out]; have := HML.out; omega) (HGK.out.ext (HE.out.trans he)) (HGO.out.ext (HE.out.trans he)))
 go_upto_region 5 with (fail)
 try simp only [Act.put, nrm]
 go_cut [10] from 28 to 32 (fun vq wq => ∃ g', vq = .pointer (some ⟨g', 0, none⟩) ∧ w6.heap.size ≤ g' ∧ Blk wq g' (kk.map bval) 23 ∧ Ext w6 wq)
 case first =>
  have B0 : Ext w6 w6.drew := Ext.drew _
  refine wp_region_held_drew (S := fun w' => Ext w6 w') (by kernel_rfl) B0 (fun hHeld => ?_)
  refine tke 0 (.slice (some ⟨Rb, 0, none⟩) 32 32) rfl (zew _ _ _ _ (.pointer (some ⟨Rb, 0, none⟩)) (.slice (some ⟨Rb, 0, none⟩) 32 32) none none (by rfl) rfl rfl rfl rfl (fun w => cut_whole Tryz.underlying23 Tryz.sizeOf5 (by omega) _ w)) hHeld ?_
  simp only [Act.put, nrm]
  refine tke 1 (.slice (some ⟨Pb, 0, none⟩) 32 32) rfl (zew _ _ _ _ (.pointer (some ⟨Pb, 0, none⟩)) (.slice (some ⟨Pb, 0, none⟩) 32 32) none none (by rfl) rfl rfl rfl rfl (fun w => cut_whole Tryz.underlying23 Tryz.sizeOf5 (by omega) _ w)) hHeld ?_
  simp only [Act.put, nrm]
  refine tke 2 (.slice am m.length cm) rfl (zcb _ (.slice am m.length cm) (by rfl) rfl rfl) hHeld ?_
  simp only [Act.put, nrm]
  refine wpAnyH_ready (rs := [3, 5]) (by kernel_rfl) (by simp) (AllReadyH.cons rfl (fun K hK => ?_) (AllReadyH.cons rfl (fun K hK => ?_) AllReadyH.nil))
  ·refine zan (by rfl) ?_
   refine zbv (some 31) _ _ _ _ rfl rfl #[.slice (some ⟨Rb, 0, none⟩) 32 32, .slice (some ⟨Pb, 0, none⟩) 32 32, .slice am m.length cm] iq (.slice none 0 0) Tryz.underlying88 HQ0.out HQ1.out (by rw [HQ2.out]; decide) (by rw [HQ2.out]; decide) (by rw [HQ2.out]; kernel_rfl) ?_
   obtain ⟨m1, hm1⟩ : ∃ wNew, wNew = World.alloc w6.drew (.cells #[.slice (some ⟨Rb, 0, none⟩) 32 32, .slice (some ⟨Pb, 0, none⟩) 32 32, .slice am m.length cm] 46) := ⟨_, rfl⟩
   rw [← hm1]
   have b1 : Ext w6.drew m1 := by rw [hm1]; exact Ext.alloc _ _
   obtain ⟨g1, hg1⟩ : ∃ gNew, gNew = (w6.drew).heap.size := ⟨_, rfl⟩
   rw [← hg1]
   have r1 : Row1 m1 (.slice (some ⟨g1, 0, none⟩) 3 3) [.slice (some ⟨Rb, 0, none⟩) 32 32, .slice (some ⟨Pb, 0, none⟩) 32 32, .slice am m.length cm] := by rw [hm1, hg1]; exact Row1.made _ _ _ _ _ _ rfl rfl rfl (by unfold maxLen; omega)
   clear hm1 hg1
   have N1 : Ext w6 m1 := B0.trans b1
   refine hK.out _ _ N1 (fun hHeld => ?_)
   clear hK K
   try simp only [Act.put, nrm]
   refine wpAnyH_ready (rs := [4, 5]) (by kernel_rfl) (by simp) (AllReadyH.cons rfl (fun K hK => ?_) (AllReadyH.cons rfl (fun K hK => ?_) AllReadyH.nil))
   ·go_simp
    refine (HWD.out _ _ N1 (rowB3 r1 ((zcm (n := 32) HRb.out (by rw [List.length_map]; exact HRL.out) (by unfold maxLen; omega)).below N1) ((zcm (n := 32) HPb.out (by rw [List.length_map]; exact HPL.out) (by unfold maxLen; omega)).below N1) ((HM9.out).below N1))).mono ?_
    rintro e m2 ⟨rfl, b2⟩
    have r1 := r1.below b2
    have N2 : Ext w6 m2 := N1.trans b2
    refine hK.out _ _ N2 (fun hHeld => ?_)
    clear hK K
    try simp only [Act.put, nrm]
    refine rdy 5 rfl fun K hK => ?_
    refine zan (by rfl) ?_
    refine zax (some 10) _ zero32 rfl rfl Tryz.zeroValue23 ?_
    obtain ⟨m3, hm3⟩ : ∃ wNew, wNew = World.alloc m2 (.cells (zero32).toArray 23) := ⟨_, rfl⟩
    rw [← hm3]
    have b3 : Ext m2 m3 := by rw [hm3]; exact Ext.alloc _ _
    obtain ⟨g3, hg3⟩ : ∃ gNew, gNew = (m2).heap.size := ⟨_, rfl⟩
    rw [← hg3]
    have z3 : Blk m3 g3 zero32 23 := by rw [hm3, hg3]; exact Blk.made _ _ _
    have l3 : (w6).heap.size ≤ g3 := by rw [hg3]; exact N2.size
    clear hm3 hg3
    have r1 := r1.below b3
    have N3 : Ext w6 m3 := N2.trans b3
    refine hK.out _ _ N3 (fun hHeld => ?_)
    clear hK K
    try simp only [Act.put, nrm]
    refine rdy 6 rfl fun K hK => ?_
    refine zan (by rfl) ?_
    refine zak _ _ _ rfl g3 ((kk).map bval) rfl rfl _ _ z3 (by rw [List.length_map, HKL.out]; rfl) (zaf (HKL.out)) (zaj _) ?_
    intro m4 hb4 hg4
    have N4 : Ext w6 m4 := zad N3 hg4 l3
    refine hK.out _ _ N4 (fun hHeld => ?_)
    clear hK K
    try simp only [Act.put, nrm]
    refine dne ?_
    go_wp2_with fail
    go_meet
    exact ⟨_, rfl, l3, hb4, N4⟩
   ·refine zan (by rfl) ?_
    refine zax (some 10) _ zero32 rfl rfl Tryz.zeroValue23 ?_
    obtain ⟨m2, hm2⟩ : ∃ wNew, wNew = World.alloc m1 (.cells (zero32).toArray 23) := ⟨_, rfl⟩
    rw [← hm2]
    have b2 : Ext m1 m2 := by rw [hm2]; exact Ext.alloc _ _
    obtain ⟨g2, hg2⟩ : ∃ gNew, gNew = (m1).heap.size := ⟨_, rfl⟩
    rw [← hg2]
    have z2 : Blk m2 g2 zero32 23 := by rw [hm2, hg2]; exact Blk.made _ _ _
    have l2 : (w6).heap.size ≤ g2 := by rw [hg2]; exact N1.size
    clear hm2 hg2
    have r1 := r1.below b2
    have N2 : Ext w6 m2 := N1.trans b2
    refine hK.out _ _ N2 (fun hHeld => ?_)
    clear hK K
    try simp only [Act.put, nrm]
    refine rdy 4 rfl fun K hK => ?_
    go_simp
    refine (HWD.out _ _ N2 (rowB3 r1 ((zcm (n := 32) HRb.out (by rw [List.length_map]; exact HRL.out) (by unfold maxLen; omega)).below N2) ((zcm (n := 32) HPb.out (by rw [List.length_map]; exact HPL.out) (by unfold maxLen; omega)).below N2) ((HM9.out).below N2))).mono ?_
    rintro e m3 ⟨rfl, b3⟩
    have r1 := r1.below b3
    have z2 := z2.below b3
    have N3 : Ext w6 m3 := N2.trans b3
    refine hK.out _ _ N3 (fun hHeld => ?_)
    clear hK K
    try simp only [Act.put, nrm]
    refine rdy 6 rfl fun K hK => ?_
    refine zan (by rfl) ?_
    refine zak _ _ _ rfl g2 ((kk).map bval) rfl rfl _ _ z2 (by rw [List.length_map, HKL.out]; rfl) (zaf (HKL.out)) (zaj _) ?_
    intro m4 hb4 hg4
    have N4 : Ext w6 m4 := zad N3 hg4 l2
    refine hK.out _ _ N4 (fun hHeld => ?_)
    clear hK K
    try simp only [Act.put, nrm]
    refine dne ?_
    go_wp2_with fail
    go_meet
    exact ⟨_, rfl, l2, hb4, N4⟩
  ·refine zan (by rfl) ?_
   refine zax (some 10) _ zero32 rfl rfl Tryz.zeroValue23 ?_
   obtain ⟨m1, hm1⟩ : ∃ wNew, wNew = World.alloc w6.drew (.cells (zero32).toArray 23) := ⟨_, rfl⟩
   rw [← hm1]
   have b1 : Ext w6.drew m1 := by rw [hm1]; exact Ext.alloc _ _
   obtain ⟨g1, hg1⟩ : ∃ gNew, gNew = (w6.drew).heap.size := ⟨_, rfl⟩
   rw [← hg1]
   have z1 : Blk m1 g1 zero32 23 := by rw [hm1, hg1]; exact Blk.made _ _ _
   have l1 : (w6).heap.size ≤ g1 := by rw [hg1]; exact B0.size
   clear hm1 hg1
   have N1 : Ext w6 m1 := B0.trans b1
   refine hK.out _ _ N1 (fun hHeld => ?_)
   clear hK K
   try simp only [Act.put, nrm]
   refine rdy 3 rfl fun K hK => ?_
   refine zan (by rfl) ?_
   refine zbv (some 31) _ _ _ _ rfl rfl #[.slice (some ⟨Rb, 0, none⟩) 32 32, .slice (some ⟨Pb, 0, none⟩) 32 32, .slice am m.length cm] iq (.slice none 0 0) Tryz.underlying88 HQ0.out HQ1.out (by rw [HQ2.out]; decide) (by rw [HQ2.out]; decide) (by rw [HQ2.out]; kernel_rfl) ?_
   obtain ⟨m2, hm2⟩ : ∃ wNew, wNew = World.alloc m1 (.cells #[.slice (some ⟨Rb, 0, none⟩) 32 32, .slice (some ⟨Pb, 0, none⟩) 32 32, .slice am m.length cm] 46) := ⟨_, rfl⟩
   rw [← hm2]
   have b2 : Ext m1 m2 := by rw [hm2]; exact Ext.alloc _ _
   obtain ⟨g2, hg2⟩ : ∃ gNew, gNew = (m1).heap.size := ⟨_, rfl⟩
   rw [← hg2]
   have z1 := z1.below b2
   have r2 : Row1 m2 (.slice (some ⟨g2, 0, none⟩) 3 3) [.slice (some ⟨Rb, 0, none⟩) 32 32, .slice (some ⟨Pb, 0, none⟩) 32 32, .slice am m.length cm] := by rw [hm2, hg2]; exact Row1.made _ _ _ _ _ _ rfl rfl rfl (by unfold maxLen; omega)
   clear hm2 hg2
   have N2 : Ext w6 m2 := N1.trans b2
   refine hK.out _ _ N2 (fun hHeld => ?_)
   clear hK K
   try simp only [Act.put, nrm]
   refine rdy 4 rfl fun K hK => ?_
   go_simp
   refine (HWD.out _ _ N2 (rowB3 r2 ((zcm (n := 32) HRb.out (by rw [List.length_map]; exact HRL.out) (by unfold maxLen; omega)).below N2) ((zcm (n := 32) HPb.out (by rw [List.length_map]; exact HPL.out) (by unfold maxLen; omega)).below N2) ((HM9.out).below N2))).mono ?_
   rintro e m3 ⟨rfl, b3⟩
   have r2 := r2.below b3
   have z1 := z1.below b3
   have N3 : Ext w6 m3 := N2.trans b3
   refine hK.out _ _ N3 (fun hHeld => ?_)
   clear hK K
   try simp only [Act.put, nrm]
   refine rdy 6 rfl fun K hK => ?_
   refine zan (by rfl) ?_
   refine zak _ _ _ rfl g1 ((kk).map bval) rfl rfl _ _ z1 (by rw [List.length_map, HKL.out]; rfl) (zaf (HKL.out)) (zaj _) ?_
   intro m4 hb4 hg4
   have N4 : Ext w6 m4 := zad N3 hg4 l1
   refine hK.out _ _ N4 (fun hHeld => ?_)
   clear hK K
   try simp only [Act.put, nrm]
   refine dne ?_
   go_wp2_with fail
   go_meet
   exact ⟨_, rfl, l1, hb4, N4⟩
 case rest =>
 obtain ⟨Kb, rfl, hge, hBb, hX⟩ := hcut
 have HOKb : Hid (Pb < Kb) := jh (Nat.lt_of_lt_of_le HPb.out.lt hge)
 have HKb := jh hBb
 have HR := jh (zaa HR.out hX)
 have HAb := jh (zaa HAb.out hX)
 have HNb := jh (zaa HNb.out hX)
 have HRb := jh (zaa HRb.out hX)
 have HE := jh (HE.out.trans hX)
 have HOA := jh (And.intro HOA.out HOKb.out)
 clear hge hBb hX
 generalize wc = w7 at *
 clear HM9 HWD
 go_upto_region 6 with (fail)
 try simp only [Act.put, nrm]
 go_cut [11] from 33 to 37 (fun vq wq => ∃ g', vq = .pointer (some ⟨g', 0, none⟩) ∧ w7.heap.size ≤ g' ∧ Blk wq g' (sd.map bval) 23 ∧ Ext w7 wq)
 case first =>
  have B0 : Ext w7 w7.drew := Ext.drew _
  refine wp_region_held_drew (S := fun w' => Ext w7 w') (by kernel_rfl) B0 (fun hHeld => ?_)
  refine tke 0 (.agg ((nu).map bval).toArray) rfl (yieldsIf_load_mid (by rfl) _ _ rfl Nb 0 rfl _ _ (fun w h => zbe HNb.out h) Tryz.underlying23 rfl (zaf HNL.out)) hHeld ?_
  simp only [Act.put, nrm]
  refine tke 1 (.agg ((kk).map bval).toArray) rfl (yieldsIf_load_mid (by rfl) _ _ rfl Kb 0 rfl _ _ (fun w h => zbe HKb.out h) Tryz.underlying23 rfl (zaf HKL.out)) hHeld ?_
  simp only [Act.put, nrm]
  refine tke 2 (.agg ((a).map bval).toArray) rfl (yieldsIf_load_mid (by rfl) _ _ rfl Ab 0 rfl _ _ (fun w h => zbe HAb.out h) Tryz.underlying23 rfl (zaf HAL.out)) hHeld ?_
  simp only [Act.put, nrm]
  refine wpAnyH_ready (rs := [3, 5]) (by kernel_rfl) (by simp) (AllReadyH.cons rfl (fun K hK => ?_) (AllReadyH.cons rfl (fun K hK => ?_) AllReadyH.nil))
  ·go_simp
   refine (rMulQ_num kk a _ HKL.out HAL.out (HGO.out.ext (HE.out.trans B0))).mono ?_
   rintro e m1 ⟨rfl, b1⟩
   have N1 : Ext w7 m1 := B0.trans b1
   refine hK.out _ _ N1 (fun hHeld => ?_)
   clear hK K
   try simp only [Act.put, nrm]
   refine wpAnyH_ready (rs := [4, 5]) (by kernel_rfl) (by simp) (AllReadyH.cons rfl (fun K hK => ?_) (AllReadyH.cons rfl (fun K hK => ?_) AllReadyH.nil))
   ·go_simp
    refine (add_as HSD.out (rAddQ_num nu (nq ((leN kk : Nat) * (leN a : Nat))) _ HNL.out (zcc _) (HGO.out.ext (HE.out.trans N1)))).mono ?_
    rintro e m2 ⟨rfl, b2⟩
    have N2 : Ext w7 m2 := N1.trans b2
    refine hK.out _ _ N2 (fun hHeld => ?_)
    clear hK K
    try simp only [Act.put, nrm]
    refine rdy 5 rfl fun K hK => ?_
    refine zan (by rfl) ?_
    refine zax (some 11) _ zero32 rfl rfl Tryz.zeroValue23 ?_
    obtain ⟨m3, hm3⟩ : ∃ wNew, wNew = World.alloc m2 (.cells (zero32).toArray 23) := ⟨_, rfl⟩
    rw [← hm3]
    have b3 : Ext m2 m3 := by rw [hm3]; exact Ext.alloc _ _
    obtain ⟨g3, hg3⟩ : ∃ gNew, gNew = (m2).heap.size := ⟨_, rfl⟩
    rw [← hg3]
    have z3 : Blk m3 g3 zero32 23 := by rw [hm3, hg3]; exact Blk.made _ _ _
    have l3 : (w7).heap.size ≤ g3 := by rw [hg3]; exact N2.size
    clear hm3 hg3
    have N3 : Ext w7 m3 := N2.trans b3
    refine hK.out _ _ N3 (fun hHeld => ?_)
    clear hK K
    try simp only [Act.put, nrm]
    refine rdy 6 rfl fun K hK => ?_
    refine zan (by rfl) ?_
    refine zak _ _ _ rfl g3 ((sd).map bval) rfl rfl _ _ z3 (by rw [List.length_map, HSSL.out]; rfl) (zaf (HSSL.out)) (zaj _) ?_
    intro m4 hb4 hg4
    have N4 : Ext w7 m4 := zad N3 hg4 l3
    refine hK.out _ _ N4 (fun hHeld => ?_)
    clear hK K
    try simp only [Act.put, nrm]
    refine dne ?_
    go_wp2_with fail
    go_meet
    exact ⟨_, rfl, l3, hb4, N4⟩
   ·refine zan (by rfl) ?_
    refine zax (some 11) _ zero32 rfl rfl Tryz.zeroValue23 ?_
    obtain ⟨m2, hm2⟩ : ∃ wNew, wNew = World.alloc m1 (.cells (zero32).toArray 23) := ⟨_, rfl⟩
    rw [← hm2]
    have b2 : Ext m1 m2 := by rw [hm2]; exact Ext.alloc _ _
    obtain ⟨g2, hg2⟩ : ∃ gNew, gNew = (m1).heap.size := ⟨_, rfl⟩
    rw [← hg2]
    have z2 : Blk m2 g2 zero32 23 := by rw [hm2, hg2]; exact Blk.made _ _ _
    have l2 : (w7).heap.size ≤ g2 := by rw [hg2]; exact N1.size
    clear hm2 hg2
    have N2 : Ext w7 m2 := N1.trans b2
    refine hK.out _ _ N2 (fun hHeld => ?_)
    clear hK K
    try simp only [Act.put, nrm]
    refine rdy 4 rfl fun K hK => ?_
    go_simp
    refine (add_as HSD.out (rAddQ_num nu (nq ((leN kk : Nat) * (leN a : Nat))) _ HNL.out (zcc _) (HGO.out.ext (HE.out.trans N2)))).mono ?_
    rintro e m3 ⟨rfl, b3⟩
    have z2 := z2.below b3
    have N3 : Ext w7 m3 := N2.trans b3
    refine hK.out _ _ N3 (fun hHeld => ?_)
    clear hK K
    try simp only [Act.put, nrm]
    refine rdy 6 rfl fun K hK => ?_
    refine zan (by rfl) ?_
    refine zak _ _ _ rfl g2 ((sd).map bval) rfl rfl _ _ z2 (by rw [List.length_map, HSSL.out]; rfl) (zaf (HSSL.out)) (zaj _) ?_
    intro m4 hb4 hg4
    have N4 : Ext w7 m4 := zad N3 hg4 l2
    refine hK.out _ _ N4 (fun hHeld => ?_)
    clear hK K
    try simp only [Act.put, nrm]
    refine dne ?_
    go_wp2_with fail
    go_meet
    exact ⟨_, rfl, l2, hb4, N4⟩
  ·refine zan (by rfl) ?_
   refine zax (some 11) _ zero32 rfl rfl Tryz.zeroValue23 ?_
   obtain ⟨m1, hm1⟩ : ∃ wNew, wNew = World.alloc w7.drew (.cells (zero32).toArray 23) := ⟨_, rfl⟩
   rw [← hm1]
   have b1 : Ext w7.drew m1 := by rw [hm1]; exact Ext.alloc _ _
   obtain ⟨g1, hg1⟩ : ∃ gNew, gNew = (w7.drew).heap.size := ⟨_, rfl⟩
   rw [← hg1]
   have z1 : Blk m1 g1 zero32 23 := by rw [hm1, hg1]; exact Blk.made _ _ _
   have l1 : (w7).heap.size ≤ g1 := by rw [hg1]; exact B0.size
   clear hm1 hg1
   have N1 : Ext w7 m1 := B0.trans b1
   refine hK.out _ _ N1 (fun hHeld => ?_)
   clear hK K
   try simp only [Act.put, nrm]
   refine rdy 3 rfl fun K hK => ?_
   go_simp
   refine (rMulQ_num kk a _ HKL.out HAL.out (HGO.out.ext (HE.out.trans N1))).mono ?_
   rintro e m2 ⟨rfl, b2⟩
   have z1 := z1.below b2
   have N2 : Ext w7 m2 := N1.trans b2
   refine hK.out _ _ N2 (fun hHeld => ?_)
   clear hK K
   try simp only [Act.put, nrm]
   refine rdy 4 rfl fun K hK => ?_
   go_simp
   refine (add_as HSD.out (rAddQ_num nu (nq ((leN kk : Nat) * (leN a : Nat))) _ HNL.out (zcc _) (HGO.out.ext (HE.out.trans N2)))).mono ?_
   rintro e m3 ⟨rfl, b3⟩
   have z1 := z1.below b3
   have N3 : Ext w7 m3 := N2.trans b3
   refine hK.out _ _ N3 (fun hHeld => ?_)
   clear hK K
   try simp only [Act.put, nrm]
   refine rdy 6 rfl fun K hK => ?_
   refine zan (by rfl) ?_
   refine zak _ _ _ rfl g1 ((sd).map bval) rfl rfl _ _ z1 (by rw [List.length_map, HSSL.out]; rfl) (zaf (HSSL.out)) (zaj _) ?_
   intro m4 hb4 hg4
   have N4 : Ext w7 m4 := zad N3 hg4 l1
   refine hK.out _ _ N4 (fun hHeld => ?_)
   clear hK K
   try simp only [Act.put, nrm]
   refine dne ?_
   go_wp2_with fail
   go_meet
   exact ⟨_, rfl, l1, hb4, N4⟩
 case rest =>
 obtain ⟨Sb, rfl, hge, hBb, hX⟩ := hcut
 have HOSb : Hid (Kb < Sb) := jh (Nat.lt_of_lt_of_le HKb.out.lt hge)
 have HSb := jh hBb
 have HR := jh (zaa HR.out hX)
 have HRb := jh (zaa HRb.out hX)
 have HE := jh (HE.out.trans hX)
 have HOA := jh (And.intro HOA.out HOSb.out)
 clear hge hBb hX
 generalize wc = w8 at *
 have HXA := Ext.alloc w8 (.cells (ints .u8 (List.replicate 64 0)).toArray 26)
 obtain ⟨Gb, hT⟩ : ∃ T, T = w8.heap.size := ⟨_, rfl⟩
 have HOGb : Hid (Sb < Gb) := jh (by rw [hT]; exact HSb.out.lt)
 have HGb : Hid (Blk (w8.alloc (.cells (ints .u8 (List.replicate 64 0)).toArray 26)) Gb ((List.replicate 64 (0 : UInt8)).map bval) 26) := jh (by rw [hT]; exact Blk.made w8 (ints .u8 (List.replicate 64 0)) 26)
 have HR := jh (zaa HR.out HXA)
 have HRb := jh (zaa HRb.out HXA)
 have HSb := jh (zaa HSb.out HXA)
 have HE := jh (HE.out.trans HXA)
 have HOA := jh (And.intro HOA.out HOGb.out)
 clear HXA
 go_upto_region 8 with (fail)
 change Code.wp _ _ _ _ (w8.alloc (.cells (ints .u8 (List.replicate 64 0)).toArray 26))
 rw [← hT]
 clear hT
 generalize w8.alloc (.cells (ints .u8 (List.replicate 64 0)).toArray 26) = w9 at *
 refine zal 2 1 2 rfl (by kernel_rfl) (by kernel_rfl) (fun d v c a w h => by cases d <;> exact h) (by kernel_rfl) ?_
 refine zbj (.slice (some ⟨Gb, 0, none⟩) 32 64) (by rfl) (fun w hw => by go_simp) ?_
 simp only [Act.put, nrm]
 refine zbj (.slice (some ⟨Rb, 0, none⟩) 32 32) (by rfl) (fun w hw => by go_simp) ?_
 simp only [Act.put, nrm]
 refine zba (end_store (k := 2) rfl (by kernel_rfl) (by kernel_rfl) (by kernel_rfl) rfl (fun wy hwy => ?_))
 have HR := jh (zaa HR.out hwy)
 have HRb := jh (zaa HRb.out hwy)
 have HSb := jh (zaa HSb.out hwy)
 have HGb := jh (zaa HGb.out hwy)
 have HE := jh (HE.out.trans hwy)
 clear hwy
 refine wp_copy_blk _ _ 46 46 rfl 5 Tryz.underlying46 u8_oneV _ _ _ _ _ _ rfl rfl Gb 0 _ _ HGb.out (rd.map bval) (by rw [List.length_map, HRL.out]; rfl) (fun _ => ⟨rfl, ⟨Rb, 0, none⟩, rfl, fun j v hj => ?_⟩) (by simp [HRL.out, HRL.out]) (zaj _) ?_
 ·rw [WideShapes.add_plain, Nat.zero_add, HRb.out.cell, ← hj]
 intro wx1 hbz hgz
 rw [lay_one HRL.out] at hbz
 have HR := jh (HR.out.grown hgz (by have := HOA.out; simp; omega))
 have HRb := jh (HRb.out.grown hgz (by have := HOA.out; simp; omega))
 have HSb := jh (HSb.out.grown hgz (by have := HOA.out; simp; omega))
 have HE := jh (zad HE.out hgz (by have := HOA.out; omega))
 have HGb := jh hbz
 clear hbz hgz
 generalize goInt (rd.map bval).length = gl at *
 simp only [Act.put, nrm]
 go_upto_region 9 with (fail)
 refine zal 2 1 2 rfl (by kernel_rfl) (by kernel_rfl) (fun d v c a w h => by cases d <;> exact h) (by kernel_rfl) ?_
 refine zbj (.slice (some ⟨Gb, 32, none⟩) 32 32) (by rfl) (fun w hw => by go_simp) ?_
 simp only [Act.put, nrm]
 refine zbj (.slice (some ⟨Sb, 0, none⟩) 32 32) (by rfl) (fun w hw => by go_simp) ?_
 simp only [Act.put, nrm]
 refine zba (end_store (k := 2) rfl (by kernel_rfl) (by kernel_rfl) (by kernel_rfl) rfl (fun wy hwy => ?_))
 have HR := jh (zaa HR.out hwy)
 have HRb := jh (zaa HRb.out hwy)
 have HSb := jh (zaa HSb.out hwy)
 have HGb := jh (zaa HGb.out hwy)
 have HE := jh (HE.out.trans hwy)
 clear hwy
 refine wp_copy_blk _ _ 46 46 rfl 5 Tryz.underlying46 u8_oneV _ _ _ _ _ _ rfl rfl Gb 32 _ _ HGb.out (sd.map bval) (by rw [List.length_map, HSSL.out]; rfl) (fun _ => ⟨rfl, ⟨Sb, 0, none⟩, rfl, fun j v hj => ?_⟩) (by simp [HSSL.out, HRL.out]) (zaj _) ?_
 ·rw [WideShapes.add_plain, Nat.zero_add, HSb.out.cell, ← hj]
 intro wx2 hbz hgz
 rw [lay_two HRL.out HSSL.out, HSG.out] at hbz
 have HR := jh (HR.out.grown hgz (by have := HOA.out; simp; omega))
 have HRb := jh (HRb.out.grown hgz (by have := HOA.out; simp; omega))
 have HSb := jh (HSb.out.grown hgz (by have := HOA.out; simp; omega))
 have HE := jh (zad HE.out hgz (by have := HOA.out; omega))
 have HGb := jh hbz
 clear hbz hgz
 generalize goInt (sd.map bval).length = gl at *
 simp only [Act.put, nrm]
 have HL : Hid ((sg.map bval).length = (ints .u8 (List.replicate 64 0)).length) := jh (by rw [List.length_map, HGL.out, zac]; rfl)
 go_wp2_with (first | (refine zae rfl _ _ rfl Gb rfl _ _ _ _ HGb.out Tryz.underlying26 (zct HGL.out) ?_) | (refine zab rfl _ _ _ rfl (A + 1) (sg.map bval) rfl rfl _ _ HR.out HL.out (zct HGL.out) (zaj _) ?_; intro wn hbn hgn))
 refine bodyPost_ret (zbn rfl _ (A + 1) _ _ _ _ rfl hbn Tryz.underlying26 (zct HGL.out)) rfl ⟨by rw [HSGE.out], zad HE.out hgn (by have := HOA.out; omega)⟩
end Go.Proofs.YthafgicndklgfaaGreatDoor
