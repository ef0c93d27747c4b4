/- Texts that belong together, one behind the other. -/
import Derived.Test.YthafgicndklgfaaGreatDoorQz12
import Derived.Test.YthafgicndklgfaaGreatDoorQz18
import Derived.Test.YthafgicndklgfaaGreatDoorQz20
import Derived.Test.YthafgicndklgfaaGreatDoorQz24
namespace Go.Proofs.YthafgicndklgfaaGreatDoor
set_option linter.unusedVariables false
set_option maxRecDepth 100000
set_option maxHeartbeats 32000000
set_option linter.unusedSimpArgs false
open Go.RowKit
def GS (w : World) : Prop := GlobK5 w ∧ GlobO w ∧ GlobD w ∧ GlobX w ∧ GlobY w
theorem GS.ext {w w' : World} (h : GS w) (hb : Ext w w') : GS w' := ⟨h.1.ext hb, h.2.1.ext hb, h.2.2.1.ext hb, h.2.2.2.1.ext hb, h.2.2.2.2.ext hb⟩
theorem rStop_any (root : List UInt8) (sid : Int) (w : World) (hr : root.length = 32) (hG : GS w) :
  Calls Tryz.prog 20 #[.agg (root.map bval).toArray, .int .i64 sid] w fun e w' => e = .returned (.tuple #[.agg (stopC (stpI sid) (stpG root sid)).toArray, .int .i64 (stpE sid)]) ∧ Below w.heap.size w w' := by
 have HRL := jh hr
 have HIR := jh (zaf hr)
 have HG := jh hG
 have HB := jh (boxes2 w (root.map bval) (stopC 0 z64) 23 39)
 have HZS := jh (zcj (id := 0) zbi)
 clear hr hG
 go_enter Tryz.func20, Tryz.ntmps20
 go_upto_region 1 with (fail)
 obtain ⟨H1, H3, HE⟩ := HB.out
 change Code.wp _ _ _ _ ((w.alloc (.cells (root.map bval).toArray 23)).alloc (.cells (stopC 0 z64).toArray 39))
 generalize (w.alloc (.cells (root.map bval).toArray 23)).alloc (.cells (stopC 0 z64).toArray 39) = wa at *
 have HE : Hid (Ext w wa) := jh HE
 obtain ⟨C, hC⟩ : ∃ C, C = w.heap.size + 1 := ⟨_, rfl⟩
 have HLC : Hid (w.heap.size ≤ C) := jh (by omega)
 rw [← hC] at H3 ⊢
 obtain ⟨A, hA⟩ : ∃ A, A = w.heap.size := ⟨_, rfl⟩
 have HO : Hid (A < C) := jh (by omega)
 rw [← hA] at H1 ⊢
 have H1 := jh H1
 have HC0 := jh H3
 clear hA hC HB H3
 go_wp2_with fail
 refine (rsmall_any sid wa).mono ?_
 rintro e w' ⟨rfl, rfl⟩
 cases hsm : smallB sid with
 | false =>
  have HQ : Hid (stpE sid = 1 ∧ stpI sid = 0 ∧ stpG root sid = z64) := jh (by unfold stpE stpI stpG; rw [hsm]; exact ⟨rfl, rfl, rfl⟩)
  clear hsm
  go_wp2_with (first | (refine zaw rfl _ _ rfl _ rfl _ (zei _) ?_) | (refine zab rfl _ _ _ rfl C (stopC 0 z64) rfl rfl _ _ HC0.out rfl HZS.out (zcd _ _) ?_; intro w9 hb9 hg9))
  refine bodyPost_ret (zar rfl _ C _ _ _ rfl hb9 Tryz.underlying39 rfl HZS.out) rfl ?_
  exact ⟨by rw [HQ.out.1, HQ.out.2.1, HQ.out.2.2]; rfl, zad HE.out hg9 HLC.out⟩
 | true =>
  have HQ : Hid (stpE sid = 0 ∧ stpI sid = sid ∧ stpG root sid = stopG root sid) := jh (by unfold stpE stpI stpG; rw [hsm]; exact ⟨rfl, rfl, rfl⟩)
  clear hsm
  obtain ⟨g, hg⟩ : ∃ g, g = edSign root (stopT sid) := ⟨_, rfl⟩
  have HGE : Hid (stopG root sid = g) := jh hg.symm
  have HGL : Hid (g.length = 64) := jh (by rw [hg]; exact zeo _ _)
  have HSG := jh (fun (x : Value) (wx : World) (hx : Ext wa wx) (hr : Row1 wx x ((stopT sid).map bval)) => by
   have hGw := HG.out.ext (HE.out.trans hx)
   have h := rsign_f root (stopT sid) x wx HRL.out hr (by rw [stopT_length]; decide) hGw.1 hGw.2.1 hGw.2.2.1 hGw.2.2.2.1 hGw.2.2.2.2
   rw [← hg] at h
   exact h)
  clear hg
  go_upto_region 3 with (fail)
  have B0 : Ext wa wa.drew := Ext.drew _
  refine wp_region_held_drew (S := fun w' => Far (C) wa w') (by kernel_rfl) (zbx B0) (fun hHeld => ?_)
  refine tke 0 (.int .i64 sid) rfl (zcb _ (.int .i64 sid) (by rfl) rfl rfl) hHeld ?_
  simp only [Act.put, nrm]
  refine tke 1 (.agg ((root).map bval).toArray) rfl (yieldsIf_load_mid (by rfl) _ _ rfl A 0 rfl _ _ (fun w h => zbr H1.out (by have := HO.out; omega) h) Tryz.underlying23 rfl HIR.out) hHeld ?_
  simp only [Act.put, nrm]
  refine tke 2 (.int .i64 sid) rfl (zcb _ (.int .i64 sid) (by rfl) rfl rfl) hHeld ?_
  simp only [Act.put, nrm]
  refine rdy 3 rfl fun K hK => ?_
  go_simp
  refine (rstopText_any sid wa.drew).mono ?_
  rintro e m1 ⟨x1, rfl, o1, b1⟩
  have r1 : Row1 m1 x1 ((stopT sid).map bval) := Row1.of_own o1
  have N1 : Ext wa m1 := B0.trans b1
  refine hK.out _ _ (zbx N1) (fun hHeld => ?_)
  clear hK K
  try simp only [Act.put, nrm]
  refine rdy 4 rfl fun K hK => ?_
  go_simp
  refine (HSG.out _ m1 N1 r1).mono ?_
  rintro e m2 ⟨rfl, b2⟩
  have r1 := r1.below b2
  have N2 : Ext wa m2 := N1.trans b2
  refine hK.out _ _ (zbx N2) (fun hHeld => ?_)
  clear hK K
  try simp only [Act.put, nrm]
  refine tke 5 (.agg (stopC sid g).toArray) rfl (yi_build _ _ _ _ (build_stop sid HGL.out) (by rfl) rfl (by simp [Act.eval])) hHeld ?_
  simp only [Act.put, nrm]
  refine rdy 6 rfl fun K hK => ?_
  refine zan (by rfl) ?_
  refine zak _ _ _ rfl C (stopC sid g) rfl rfl _ _ (zaa HC0.out N2) (by rw [zbt HGL.out, zbt zbi]) (zcj HGL.out) (zcd _ _) ?_
  intro m3 hb3 hg3
  refine hK.out _ _ (zdk N2 hg3) (fun hHeld => ?_)
  clear hK K
  try simp only [Act.put, nrm]
  refine rdy 7 rfl fun K hK => ?_
  go_simp
  refine hK.out _ _ (zdk N2 hg3) (fun hHeld => ?_)
  clear hK K
  try simp only [Act.put, nrm]
  refine dne ?_
  have hfin := hb3
  have hNN := zad (HE.out.trans N2) hg3 HLC.out
  generalize m3 = w11 at hfin hNN ⊢
  go_wp2_with fail
  refine bodyPost_ret (zar rfl _ C _ _ _ rfl hfin Tryz.underlying39 rfl (zcj HGL.out)) rfl ?_
  exact ⟨by rw [HQ.out.1, HQ.out.2.1, HQ.out.2.2, HGE.out]; rfl, hNN⟩
theorem GS.gp {w : World} (h : GS w) : GP w := ⟨h.1, h.2.2.1, h.2.2.2.1, h.2.2.2.2⟩
section
section
variable {P : Program} {ops : Array Oper} {Q : Exit → Act → World → Prop}
theorem wpList_nes {rest : List Oper} {o : Oper} {a : Act} {w : World} (hw : Region.wanted o (yielded ops a.tmps) = true) (ty rt : TypeId) (x y : Operand) (xs ys : Array Value) (r : Bool) (hr : ∀ w, (Op.equalIn 10000 ty (.agg xs) (.agg ys)).run P w = .ok (!r) w) (hg : P.eqGuardType P.depth ty = false) (ho : o.op = .binOp .neq ty x y rt)
  (hx : a.eval x = .agg xs) (hy : a.eval y = .agg ys) (next : wpList P ops Q rest (a.put o.dst (.bool r)) w) : wpList P ops Q (o :: rest) a w := by
 refine wpList_step fun K hK => ?_
 rw [if_pos hw]
 have h1 : (Op.equal ty (.agg xs) (.agg ys)).run P w = .ok (!r) w := hr w
 unfold Oper.wp execOp
 simp only [ho, hx, hy]
 simp [eqGuard, hg, binOp, h1]
 exact hK _ _ next
end
end
theorem stp_holds {sid : Int} (root : List UInt8) (h : stpE sid = 0) : stpE (stpI sid) = 0 ∧ rdE (pckL (stpI sid) (stpG root sid)) = 0 ∧ rdI (pckL (stpI sid) (stpG root sid)) = stpI sid ∧ rdG (pckL (stpI sid) (stpG root sid)) = stpG root sid ∧ stopV (edPub root) (stpI sid) (stpG root sid) = true ∧ (pckL (stpI sid) (stpG root sid)).length = 76 := by
 cases h1 : smallB sid with
 | false =>
  unfold stpE at h
  rw [h1] at h
  cases h
 | true =>
  have e1 : stpI sid = sid := by unfold stpI; rw [h1]; rfl
  have e2 : stpG root sid = stopG root sid := by unfold stpG; rw [h1]; rfl
  rw [e1, e2]
  have e3 : pckL sid (stopG root sid) = stopB sid (stopG root sid) := by unfold pckL; rw [h1]; rfl
  rw [e3]
  have hy := rd_yes (readS_back h1 (stopG_length root sid))
  exact ⟨h, hy.1, hy.2.1, hy.2.2, stopV_sign root h1, zed _ (stopG_length _ _)⟩
theorem certStops_any {MG : World → Prop} (SC : CrtSaid MG) (root : List UInt8) (sid : Int) (w : World) (hr : root.length = 32) (hi : I64 sid) (hG : MG w) (hV : GS w) :
  Calls Tryz.prog 5 #[.agg (root.map bval).toArray, .int .i64 sid] w fun e w' => e = .returned (.bool true) ∧ Below w.heap.size w w' := by
 have HG := jh hG
 have HV := jh hV
 have HSC := jh SC
 have HRL := jh hr
 have HIR := jh (zaf hr)
 have H1 := jh (Blk.made w (root.map bval) 23)
 have HE := jh (Ext.alloc w (.cells (root.map bval).toArray 23))
 have HPL : Hid ((edPub root).length = 32) := jh (edPub_length _)
 have HS1 := jh (fun w hG => SC.stop root sid w hr hi hG)
 have HS2 := jh (fun w hG => rStop_any root sid w hr hG)
 have HPR := jh (fun w hG => rpub_g root w hr hG)
 have HHO := jh (fun h => stp_holds (sid := sid) root h)
 have HII := jh (stpI_in sid)
 have HGL := jh (stpG_length root sid)
 generalize stpE sid = E at *
 generalize stpI sid = I at *
 generalize stpG root sid = g at *
 generalize edPub root = p at *
 clear hr hi hG hV SC
 have HLC : Hid ((stopC I g).length = (stopC 0 z64).length) := jh (by rw [zbt HGL.out, zbt zbi])
 have HIC := jh (zcj (id := I) HGL.out)
 go_enter Tryz.func5, Tryz.ntmps5
 go_upto_region 1 with (fail)
 change Code.wp _ _ _ _ (w.alloc (.cells (root.map bval).toArray 23))
 generalize w.alloc (.cells (root.map bval).toArray 23) = wa at *
 obtain ⟨A, hA⟩ : ∃ A, A = w.heap.size := ⟨_, rfl⟩
 rw [← hA] at H1 ⊢
 clear hA
 go_wp2_with fail
 refine (alive_any16 HSC.out wa (HSC.out.ext HG.out HE.out) (HV.out.ext HE.out).gp).mono ?_
 rintro e w1 ⟨rfl, hb⟩
 have H1 := jh (zaa H1.out hb)
 have HE := jh (HE.out.trans hb)
 clear hb
 go_wp2_with (refine zcf (by rfl) _ _ rfl A rfl _ _ _ _ H1.out Tryz.underlying23 HIR.out ?_)
 refine (HS1.out w1 (HSC.out.ext HG.out HE.out)).mono ?_
 rintro e w2 ⟨rfl, hb⟩
 have H1 := jh (zaa H1.out hb)
 have HE := jh (HE.out.trans hb)
 clear hb HS1
 have HZ := jh (Blk.made w2 (stopC 0 z64) 39)
 have HEA := jh (Ext.alloc w2 (.cells (stopC 0 z64).toArray 39))
 go_upto_region 3 with (refine zab rfl _ _ _ rfl w2.heap.size (stopC I g) rfl rfl _ _ HZ.out HLC.out HIC.out (zcd _ _) ?_; intro w3 hb2 hg2)
 have HX := jh (zad HEA.out hg2 (Nat.le_refl _))
 have H1 := jh (zaa H1.out HX.out)
 have HE := jh (HE.out.trans HX.out)
 have H3 := jh hb2
 obtain ⟨C, hD⟩ : ∃ D, D = w2.heap.size := ⟨_, rfl⟩
 rw [← hD] at H3 ⊢
 clear hb2 hg2 HZ HEA HX hD
 go_wp2_with (refine zcf (by rfl) _ _ rfl A rfl _ _ _ _ H1.out Tryz.underlying23 HIR.out ?_)
 refine (HS2.out w3 (HV.out.ext HE.out)).mono ?_
 rintro e w4 ⟨rfl, hb⟩
 have H1 := jh (zaa H1.out hb)
 have H3 := jh (zaa H3.out hb)
 have HE := jh (HE.out.trans hb)
 clear hb HS2
 have HZ := jh (Blk.made w4 (stopC 0 z64) 39)
 have HEA := jh (Ext.alloc w4 (.cells (stopC 0 z64).toArray 39))
 go_upto_region 4 with (refine zab rfl _ _ _ rfl w4.heap.size (stopC I g) rfl rfl _ _ HZ.out HLC.out HIC.out (zcd _ _) ?_; intro w5 hb2 hg2)
 have HX := jh (zad HEA.out hg2 (Nat.le_refl _))
 have H1 := jh (zaa H1.out HX.out)
 have H3 := jh (zaa H3.out HX.out)
 have HE := jh (HE.out.trans HX.out)
 have H4 := jh hb2
 obtain ⟨D, hD⟩ : ∃ D, D = w4.heap.size := ⟨_, rfl⟩
 rw [← hD] at H4 ⊢
 clear hb2 hg2 HZ HEA HX hD
 have hee : (E == E) = true := beq_self_eq_true E
 have hed : decide (E = E) = true := decide_eq_true rfl
 have hen : (E != E) = false := bne_self_eq_false E
 go_wp2_with fail
 refine (crt_num_any E w5).mono ?_
 rintro e w6 ⟨rfl, hb⟩
 have H1 := jh (zaa H1.out hb)
 have H3 := jh (zaa H3.out hb)
 have H4 := jh (zaa H4.out hb)
 have HE := jh (HE.out.trans hb)
 clear hb
 go_upto_region 6 with (first | (refine zcx (by rfl) _ _ rfl C rfl _ _ _ H3.out Tryz.underlying39 HIC.out ?_) | (refine zcx (by rfl) _ _ rfl D rfl _ _ _ H4.out Tryz.underlying39 HIC.out ?_) | (refine wpList_nes (by rfl) _ _ _ _ _ _ false (stop_eq HGL.out HGL.out (decide_eq_true ⟨rfl, rfl⟩)) stop_guard rfl rfl rfl ?_))
 clear H4 hee hed hen
 by_cases hx : E = 0
 ·subst hx
  obtain ⟨q1, q2, q3, q4, q5, q6⟩ := HHO.out rfl
  have HPK := jh (fun w hG => HSC.out.pack g I w HGL.out HII.out hG)
  have HPK2 := jh (fun w => rPackStop_any g I w HGL.out)
  rw [q1] at HPK HPK2
  obtain ⟨b, hb⟩ : ∃ b, b = pckL I g := ⟨_, rfl⟩
  rw [← hb] at HPK HPK2 q2 q3 q4 q6
  have HBL := jh q6
  have HQ2 := jh q2
  have HQ3 := jh q3
  have HQ4 := jh q4
  have HQ5 := jh q5
  clear hb q1 q2 q3 q4 q5 q6 HHO
  go_wp2_with (refine zcx (by rfl) _ _ rfl C rfl _ _ _ H3.out Tryz.underlying39 HIC.out ?_)
  refine (HPK.out w6 (HSC.out.ext HG.out HE.out)).mono ?_
  rintro e w7 ⟨x, rfl, ho, hb⟩
  have hr := Row1.of_own ho
  obtain ⟨a, c, hx, _⟩ := id hr
  rw [List.length_map, HBL.out] at hx
  subst hx
  have HR := jh hr
  have H1 := jh (zaa H1.out hb)
  have H3 := jh (zaa H3.out hb)
  have HE := jh (HE.out.trans hb)
  clear hb hr ho HPK
  go_wp2_with (refine zcx (by rfl) _ _ rfl C rfl _ _ _ H3.out Tryz.underlying39 HIC.out ?_)
  refine (HPK2.out w7).mono ?_
  rintro e w8 ⟨x, rfl, ho, hb⟩
  have hr := Row1.of_own ho
  obtain ⟨a2, c2, hx, _⟩ := id hr
  rw [List.length_map, HBL.out] at hx
  subst hx
  have HR2 := jh hr
  have H1 := jh (zaa H1.out hb)
  have H3 := jh (zaa H3.out hb)
  have HR := jh (HR.out.below hb)
  have HE := jh (HE.out.trans hb)
  clear hb hr ho HPK2
  go_wp2_with fail
  refine (HSC.out.read b _ w8 HR.out (by rw [HBL.out]; decide) (HSC.out.ext HG.out HE.out)).mono ?_
  rintro e w9 ⟨rfl, hb⟩
  rw [HQ2.out, HQ3.out, HQ4.out]
  have H1 := jh (zaa H1.out hb)
  have H3 := jh (zaa H3.out hb)
  have HR := jh (HR.out.below hb)
  have HR2 := jh (HR2.out.below hb)
  have HE := jh (HE.out.trans hb)
  clear hb HQ2 HQ3 HQ4
  have HZ := jh (Blk.made w9 (stopC 0 z64) 39)
  have HEA := jh (Ext.alloc w9 (.cells (stopC 0 z64).toArray 39))
  go_upto_region 11 with (refine zab rfl _ _ _ rfl w9.heap.size (stopC I g) rfl rfl _ _ HZ.out HLC.out HIC.out (zcd _ _) ?_; intro w10 hb2 hg2)
  have HX := jh (zad HEA.out hg2 (Nat.le_refl _))
  have H1 := jh (zaa H1.out HX.out)
  have H3 := jh (zaa H3.out HX.out)
  have HR := jh (HR.out.below HX.out)
  have HR2 := jh (HR2.out.below HX.out)
  have HE := jh (HE.out.trans HX.out)
  have H5 := jh hb2
  obtain ⟨G, hD⟩ : ∃ D, D = w9.heap.size := ⟨_, rfl⟩
  rw [← hD] at H5 ⊢
  clear hb2 hg2 HZ HEA HX hD
  have HC1 := jh (fun (wx : World) (hx : Ext w10 wx) => HSC.out.checkStop p g I wx HPL.out HGL.out HII.out (HSC.out.ext HG.out (HE.out.trans hx)))
  rw [HQ5.out] at HC1
  have HPX := jh (fun (wx : World) (hx : Ext w10 wx) => HPR.out wx (HV.out.ext (HE.out.trans hx)).gp)
  have B0 : Ext w10 w10.drew := Ext.drew _
  refine wp_region_held_drew (S := fun w' => Ext w10 w') (by kernel_rfl) B0 (fun hHeld => ?_)
  refine tke 0 (.int .i64 0) rfl (zcb _ (.int .i64 0) (by rfl) rfl rfl) hHeld ?_
  simp only [Act.put, nrm]
  refine rdy 1 rfl fun K hK => ?_
  go_simp
  refine (crt_num_any (0) w10.drew).mono ?_
  rintro e m1 ⟨rfl, b1⟩
  have N1 : Ext w10 m1 := B0.trans b1
  refine hK.out _ _ N1 (fun hHeld => ?_)
  clear hK K
  try simp only [Act.put, nrm]
  refine tke 2 (.bool true) rfl (yi_eqi .i64 _ _ _ _ _ _ true (decide_eq_true (rfl)) (by rfl) rfl rfl rfl) hHeld ?_
  simp only [Act.put, nrm]
  refine tke 3 (.bool true) rfl (zcb _ (.bool true) (by rfl) rfl rfl) hHeld ?_
  simp only [Act.put, nrm]
  refine tke 4 (.int .i64 0) rfl (zcb _ (.int .i64 0) (by rfl) rfl rfl) hHeld ?_
  simp only [Act.put, nrm]
  refine tke 5 (.bool true) rfl (yi_eqi .i64 _ _ _ _ _ _ true (decide_eq_true (rfl)) (by rfl) rfl rfl rfl) hHeld ?_
  simp only [Act.put, nrm]
  refine tke 6 (.bool true) rfl (yi_pick _ _ _ true _ (by rfl) rfl rfl rfl) hHeld ?_
  simp only [Act.put, nrm]
  refine tke 7 (.bool true) rfl (zcb _ (.bool true) (by rfl) rfl rfl) hHeld ?_
  simp only [Act.put, nrm]
  refine tke 8 (.slice a 76 c) rfl (zcb _ (.slice a 76 c) (by rfl) rfl rfl) hHeld ?_
  simp only [Act.put, nrm]
  refine tke 9 (.string ⟨(b).toArray⟩) rfl (yi_conv _ _ _ (.slice a 76 c) _ (by rfl) rfl rfl (fun w h => zdz _ _ 5 Tryz.underlying46 Tryz.underlying5 Tryz.underlying9 ((HR.out).below h))) hHeld ?_
  simp only [Act.put, nrm]
  refine tke 10 (.slice a2 76 c2) rfl (zcb _ (.slice a2 76 c2) (by rfl) rfl rfl) hHeld ?_
  simp only [Act.put, nrm]
  refine tke 11 (.string ⟨(b).toArray⟩) rfl (yi_conv _ _ _ (.slice a2 76 c2) _ (by rfl) rfl rfl (fun w h => zdz _ _ 5 Tryz.underlying46 Tryz.underlying5 Tryz.underlying9 ((HR2.out).below h))) hHeld ?_
  simp only [Act.put, nrm]
  refine tke 12 (.bool true) rfl (yi_eqt _ _ _ _ (b) (b) true (decide_eq_true (rfl)) (by rfl) rfl rfl rfl) hHeld ?_
  simp only [Act.put, nrm]
  refine tke 13 (.bool true) rfl (yi_pick _ _ _ true _ (by rfl) rfl rfl rfl) hHeld ?_
  simp only [Act.put, nrm]
  refine tke 14 (.bool true) rfl (zcb _ (.bool true) (by rfl) rfl rfl) hHeld ?_
  simp only [Act.put, nrm]
  refine tke 15 (.int .i64 0) rfl (zcb _ (.int .i64 0) (by rfl) rfl rfl) hHeld ?_
  simp only [Act.put, nrm]
  refine rdy 16 rfl fun K hK => ?_
  go_simp
  refine (crt_num_any (0) m1).mono ?_
  rintro e m2 ⟨rfl, b2⟩
  have N2 : Ext w10 m2 := N1.trans b2
  refine hK.out _ _ N2 (fun hHeld => ?_)
  clear hK K
  try simp only [Act.put, nrm]
  refine tke 17 (.bool true) rfl (yi_eqi .i64 _ _ _ _ _ _ true (decide_eq_true (rfl)) (by rfl) rfl rfl rfl) hHeld ?_
  simp only [Act.put, nrm]
  refine tke 18 (.bool true) rfl (yi_pick _ _ _ true _ (by rfl) rfl rfl rfl) hHeld ?_
  simp only [Act.put, nrm]
  refine tke 19 (.bool true) rfl (zcb _ (.bool true) (by rfl) rfl rfl) hHeld ?_
  simp only [Act.put, nrm]
  refine tke 20 (.agg (stopC I g).toArray) rfl (yieldsIf_load_mid (by rfl) _ _ rfl G 0 rfl _ _ (fun w h => zbe H5.out h) Tryz.underlying39 rfl HIC.out) hHeld ?_
  simp only [Act.put, nrm]
  refine tke 21 (.agg (stopC I g).toArray) rfl (yieldsIf_load_mid (by rfl) _ _ rfl C 0 rfl _ _ (fun w h => zbe H3.out h) Tryz.underlying39 rfl HIC.out) hHeld ?_
  simp only [Act.put, nrm]
  refine tke 22 (.bool true) rfl (yi_eqs _ _ _ _ _ _ true (stop_eq HGL.out HGL.out (decide_eq_true ⟨rfl, rfl⟩)) stop_guard (by rfl) rfl rfl rfl) hHeld ?_
  simp only [Act.put, nrm]
  refine tke 23 (.bool true) rfl (yi_pick _ _ _ true _ (by rfl) rfl rfl rfl) hHeld ?_
  simp only [Act.put, nrm]
  refine tke 24 (.bool true) rfl (zcb _ (.bool true) (by rfl) rfl rfl) hHeld ?_
  simp only [Act.put, nrm]
  refine tke 25 (.agg ((root).map bval).toArray) rfl (yieldsIf_load_mid (by rfl) _ _ rfl A 0 rfl _ _ (fun w h => zbe H1.out h) Tryz.underlying23 rfl HIR.out) hHeld ?_
  simp only [Act.put, nrm]
  refine tke 27 (.agg (stopC I g).toArray) rfl (yieldsIf_load_mid (by rfl) _ _ rfl C 0 rfl _ _ (fun w h => zbe H3.out h) Tryz.underlying39 rfl HIC.out) hHeld ?_
  simp only [Act.put, nrm]
  refine rdy 26 rfl fun K hK => ?_
  go_simp
  refine (HPX.out m2 N2).mono ?_
  rintro e m3 ⟨rfl, b3⟩
  have N3 : Ext w10 m3 := N2.trans b3
  refine hK.out _ _ N3 (fun hHeld => ?_)
  clear hK K
  try simp only [Act.put, nrm]
  refine rdy 28 rfl fun K hK => ?_
  go_simp
  refine (HC1.out m3 N3).mono ?_
  rintro e m4 ⟨rfl, b4⟩
  have N4 : Ext w10 m4 := N3.trans b4
  refine hK.out _ _ N4 (fun hHeld => ?_)
  clear hK K
  try simp only [Act.put, nrm]
  refine tke 29 (.bool true) rfl (yi_pick _ _ _ true _ (by rfl) rfl rfl rfl) hHeld ?_
  simp only [Act.put, nrm]
  refine rdy 30 rfl fun K hK => ?_
  go_simp
  refine hK.out _ _ N4 (fun hHeld => ?_)
  clear hK K
  try simp only [Act.put, nrm]
  refine dne ?_
  have HN := jh (HE.out.trans N4)
  go_wp2_with fail
  go_ret
  exact ⟨rfl, HN.out⟩
 ·go_wp2_with fail
  go_ret
  exact ⟨rfl, HE.out⟩
section
open Go.ChangeShapes Go.WideShapes Go.ChangeAt Go.WideMaps Go.WideElems Go.RowKit
theorem certStops_opened {H : Type} {MG : World → Prop} (SC : CrtSaid MG) (enc : TypeId × Value → H) : LawWalkG (fun W => MG W ∧ GS W) enc Tryz.prog 5 Tryz.f5.params.toList := by
 intro W base args ds ps hval hA hlt hfz hG
 rw [Tryz.params5] at hA hval
 obtain ⟨v0, v1, d0, d1, p0, p1, rfl, rfl, rfl, h0, h1⟩ := trodAll_two hA
 obtain ⟨x0, rfl, hx0⟩ := open_num Tryz.underlying23 Tryz.underlying5 (by kernel_rfl) (by kernel_rfl) (hval 0 23 v0 rfl rfl) h0
 obtain ⟨x1, rfl, _, _, hw1⟩ := open_int Tryz.underlying3 (hval 1 3 v1 rfl rfl) h1
 exact certStops_any SC x0 x1 W hx0 (I64_wf hw1) hG.1 hG.2
end
end Go.Proofs.YthafgicndklgfaaGreatDoor
