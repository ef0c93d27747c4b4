/- Texts that belong together, one behind the other. -/
import Derived.Test.YtimmnieopifcbaaGreatDoorQz11
namespace Go.Proofs.YtimmnieopifcbaaGreatDoor
set_option linter.unusedVariables false
set_option maxRecDepth 100000
set_option maxHeartbeats 32000000
set_option linter.unusedSimpArgs false
open Go.RowKit
theorem wrapOther_any (s o d k : List UInt8) (w : World) (hs : s.length = 32) (ho : o.length = 32) (hd : d.length = 32) (hk : k.length = 32) (hG : GlobR w) (hK : GlobK w) : Calls Tryz.prog 5 #[.agg (s.map bval).toArray, .agg (o.map bval).toArray, .agg (d.map bval).toArray, .agg (k.map bval).toArray] w fun e w' => e = .returned (.bool true) ∧ Below w.heap.size w w' := by
 have HG := jh hG
 have HGK := jh hK
 have HSL := jh hs
 have HOL := jh ho
 have HDL := jh hd
 have HKL := jh hk
 clear hs ho hd hk hG hK
 have HW0 := jh (fun w hG => wrap_pub s d k w HSL.out HDL.out HKL.out hG)
 have HU0 := jh (fun bv w hb hG => WUnwrap_num o (wraB (pubB s) d k) bv w HOL.out hb hG)
 have HU1 := jh (fun bv w hb hG => rUnwrap_any o (wraB (pubB s) d k) bv w HOL.out hb hG)
 have HPN := jh (fun w => LPub_num s w HSL.out)
 have HPL := jh (zcj s)
 have HxL := jh (wraB_length (tb := pubB s) (draw := d) HKL.out)
 generalize wraB (pubB s) d k = x at *
 generalize pubB s = p at *
 have HyL : Hid ((unwK o x).length = 32) := jh unwK_length
 generalize unwK o x = y at *
 generalize unwE o x = er at *
 have HB := jh (boxes4 w (s.map bval) (o.map bval) (d.map bval) (k.map bval) 23 23 23 23)
 go_enter Tryz.func5, Tryz.ntmps5
 go_upto_region 1 with (fail)
 obtain ⟨H1, H2, H3, H4, HE⟩ := HB.out
 change Code.wp _ _ _ _ (((((w.alloc (.cells (s.map bval).toArray 23)).alloc (.cells (o.map bval).toArray 23)).alloc (.cells (d.map bval).toArray 23)).alloc (.cells (k.map bval).toArray 23)))
 generalize ((((w.alloc (.cells (s.map bval).toArray 23)).alloc (.cells (o.map bval).toArray 23)).alloc (.cells (d.map bval).toArray 23)).alloc (.cells (k.map bval).toArray 23)) = wa at *
 obtain ⟨A, hA⟩ : ∃ A, A = w.heap.size := ⟨_, rfl⟩
 rw [← hA] at H1 H2 H3 H4 ⊢
 have H1 := jh H1
 have H2 := jh H2
 have H3 := jh H3
 have H4 := jh H4
 have HE : Hid (Ext w wa) := jh HE
 clear hA HB
 have HIs := jh (zaf HSL.out)
 have HIo := jh (zaf HOL.out)
 have HId := jh (zaf HDL.out)
 have HIk := jh (zaf HKL.out)
 have HIy := jh (zaf HyL.out)
 have HZy : Hid ((y.map bval).length = (ints .u8 (List.replicate 32 0)).length) := jh (by rw [List.length_map, zad, HyL.out]; rfl)
 go_wp2_with fail
 refine (alive_any14 wa (HG.out.ext HE.out)).mono ?_
 rintro e wb ⟨rfl, hb⟩
 have H1 := jh (zaa H1.out hb)
 have H2 := jh (zaa H2.out hb)
 have H3 := jh (zaa H3.out hb)
 have H4 := jh (zaa H4.out hb)
 have HE := jh (HE.out.trans hb)
 clear hb
 go_upto_region 2 with (fail)
 have B0 : Ext wb wb.drew := Ext.drew _
 refine wp_region_held_drew (S := fun w' => Ext wb w') (by kernel_rfl) B0 (fun hHeld => ?_)
 refine tke 0 (.agg ((s).map bval).toArray) rfl (yieldsIf_load_mid (by rfl) _ _ rfl A 0 rfl _ _ (fun w h => zbl H1.out h) Tryz.underlying23 rfl HIs.out) hHeld ?_
 simp only [Act.put, nrm]
 refine tke 2 (.agg ((d).map bval).toArray) rfl (yieldsIf_load_mid (by rfl) _ _ rfl (A + 1 + 1) 0 rfl _ _ (fun w h => zbl H3.out h) Tryz.underlying23 rfl HId.out) hHeld ?_
 simp only [Act.put, nrm]
 refine tke 3 (.agg ((k).map bval).toArray) rfl (yieldsIf_load_mid (by rfl) _ _ rfl (A + 1 + 1 + 1) 0 rfl _ _ (fun w h => zbl H4.out h) Tryz.underlying23 rfl HIk.out) hHeld ?_
 simp only [Act.put, nrm]
 refine rdy 1 rfl fun K hK => ?_
 go_simp
 refine (HPN.out wb.drew).mono ?_
 rintro e m1 ⟨rfl, b1⟩
 have N1 : Ext wb m1 := B0.trans b1
 refine hK.out _ _ N1 (fun hHeld => ?_)
 clear hK K
 try simp only [Act.put, nrm]
 refine rdy 4 rfl fun K hK => ?_
 go_simp
 refine (HW0.out m1 (HG.out.ext (HE.out.trans N1))).mono ?_
 rintro e m2 ⟨x2, rfl, r2, b2⟩
 have N2 : Ext wb m2 := N1.trans b2
 obtain ⟨a2, c2, hx2, _⟩ := id r2
 rw [List.length_map, HxL.out] at hx2
 subst hx2
 refine hK.out _ _ N2 (fun hHeld => ?_)
 clear hK K
 try simp only [Act.put, nrm]
 refine tke 5 (.tuple #[.slice a2 80 c2, .int .i64 0]) rfl (zbv _ (.tuple #[.slice a2 80 c2, .int .i64 0]) (by rfl) rfl rfl) hHeld ?_
 simp only [Act.put, nrm]
 refine tke 6 (.slice a2 80 c2) rfl (yi_val (.slice a2 80 c2) (by rfl) (fun w _ => by go_simp)) hHeld ?_
 simp only [Act.put, nrm]
 refine tke 7 (.int .i64 0) rfl (yi_val (.int .i64 0) (by rfl) (fun w _ => by go_simp)) hHeld ?_
 simp only [Act.put, nrm]
 refine tke 8 (.slice a2 80 c2) rfl (yi_assign _ (.slice a2 80 c2) (by rfl) rfl rfl) hHeld ?_
 simp only [Act.put, nrm]
 refine rdy 9 rfl fun K hK => ?_
 go_simp
 refine hK.out _ _ N2 (fun hHeld => ?_)
 clear hK K
 try simp only [Act.put, nrm]
 refine dne ?_
 have HE := jh (HE.out.trans N2)
 have HR := jh r2
 have H1 := jh (zaa H1.out N2)
 have H2 := jh (zaa H2.out N2)
 have H3 := jh (zaa H3.out N2)
 have H4 := jh (zaa H4.out N2)
 generalize a2 = ax at HR ⊢
 generalize c2 = cx at HR ⊢
 clear r2
 generalize m2 = wd at H1 H2 H3 H4 HE HR ⊢
 go_wp2_with (first | (refine zab rfl _ _ rfl (A + 1) rfl _ _ _ _ H2.out Tryz.underlying23 HIo.out ?_))
 refine (HU0.out _ wd HR.out (HG.out.ext HE.out)).mono ?_
 rintro e we ⟨rfl, hb⟩
 have H1 := jh (zaa H1.out hb)
 have H2 := jh (zaa H2.out hb)
 have H3 := jh (zaa H3.out hb)
 have H4 := jh (zaa H4.out hb)
 have HR := jh (HR.out.below hb)
 have HE := jh (HE.out.trans hb)
 clear hb
 have HZ := jh (Blk.made we (ints .u8 (List.replicate 32 0)) 23)
 have HEA := jh (Ext.alloc we (.cells (ints .u8 (List.replicate 32 0)).toArray 23))
 go_upto_region 4 with (refine zac rfl _ _ _ rfl we.heap.size (y.map bval) rfl rfl _ _ HZ.out HZy.out HIy.out (zag _) ?_; intro wf hb2 hg2)
 have HX := jh (zae HEA.out hg2 (Nat.le_refl _))
 have H1 := jh (zaa H1.out HX.out)
 have H2 := jh (zaa H2.out HX.out)
 have H3 := jh (zaa H3.out HX.out)
 have H4 := jh (zaa H4.out HX.out)
 have HR := jh (HR.out.below HX.out)
 have HE := jh (HE.out.trans HX.out)
 have HD := jh hb2
 generalize we.heap.size = D at *
 clear hb2 hg2 HZ HEA HX
 go_wp2_with (first | (refine zab rfl _ _ rfl (A + 1) rfl _ _ _ _ H2.out Tryz.underlying23 HIo.out ?_))
 refine (HU1.out _ wf HR.out (HGK.out.ext HE.out)).mono ?_
 rintro e wg ⟨rfl, hb⟩
 have H1 := jh (zaa H1.out hb)
 have H2 := jh (zaa H2.out hb)
 have H3 := jh (zaa H3.out hb)
 have H4 := jh (zaa H4.out hb)
 have HD := jh (zaa HD.out hb)
 have HR := jh (HR.out.below hb)
 have HE := jh (HE.out.trans hb)
 clear hb
 have HZ := jh (Blk.made wg (ints .u8 (List.replicate 32 0)) 23)
 have HEA := jh (Ext.alloc wg (.cells (ints .u8 (List.replicate 32 0)).toArray 23))
 go_upto_region 5 with (refine zac rfl _ _ _ rfl wg.heap.size (y.map bval) rfl rfl _ _ HZ.out HZy.out HIy.out (zag _) ?_; intro wh hb2 hg2)
 have HX := jh (zae HEA.out hg2 (Nat.le_refl _))
 have H1 := jh (zaa H1.out HX.out)
 have H2 := jh (zaa H2.out HX.out)
 have H3 := jh (zaa H3.out HX.out)
 have H4 := jh (zaa H4.out HX.out)
 have HD := jh (zaa HD.out HX.out)
 have HR := jh (HR.out.below HX.out)
 have HE := jh (HE.out.trans HX.out)
 have HV := jh hb2
 generalize wg.heap.size = V at *
 clear hb2 hg2 HZ HEA HX
 go_wp2_with fail
 refine (wra_num_any 0 wh).mono ?_
 rintro e wq ⟨rfl, rfl⟩
 go_wp2_with fail
 refine (wra_num_any er wh).mono ?_
 rintro e wq ⟨rfl, rfl⟩
 go_wp2_with (first | (refine wpList_eql (by rfl) _ _ _ _ _ _ 32 _ y y true rfl (Or.inl ⟨rfl, decide_eq_true rfl⟩) Tryz.underlying23 Tryz.underlying5 num_info zek num_guard rfl rfl HyL.out HyL.out ?_) | (refine zei (by rfl) _ _ rfl (D) rfl _ _ _ _ HD.out Tryz.underlying23 HIy.out ?_) | (refine zei (by rfl) _ _ rfl (V) rfl _ _ _ _ HV.out Tryz.underlying23 HIy.out ?_))
 go_ret
 exact ⟨rfl, HE.out⟩
end Go.Proofs.YtimmnieopifcbaaGreatDoor
