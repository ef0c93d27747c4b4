/- Texts that belong together, one behind the other. -/
import Derived.Test.YtckggbkoabmjiaaGreatDoorQz11
import Derived.Test.YtckggbkoabmjiaaGreatDoorQz16
namespace Go.Proofs.YtckggbkoabmjiaaGreatDoor
set_option linter.unusedVariables false
set_option linter.unusedSimpArgs false
open Go.RowKit
section
open Go.ChangeShapes Go.WideShapes Go.ChangeAt Go.RowKit
section
variable {H : Type} {enc : TypeId × Value → H} {P : Program} {W : World}
theorem open_numN {base0 : Nat} {r : Reach} {n : Nat} {t e : TypeId} {v : Value} {d : DataW H} {ps : List MemPlace} (ht : P.underlying t = some (.array n e)) (he : P.underlying e = some (.int .u8)) (hc : P.cellsOf e = 1) (hct : P.cellsOf t = n)
  (hval : Value.okWide P W r base0 t v) (hd : DataW.Trod enc P W 0 (fun _ => true) true t v d ps) : ∃ l : List UInt8, v = .agg (l.map bval).toArray ∧ l.length = n := by
 obtain ⟨zs, rfl, hl, hw⟩ := open_array_ints ht he hc hct hval hd
 obtain ⟨l, e⟩ := bytes_of_ints hw
 refine ⟨l, by rw [e], ?_⟩
 have := congrArg List.length e
 simpa [hl] using this.symm
end
end
section
section
variable {P : Program} {ops : Array Oper} {S : World → Prop}
theorem yi_pick {o : Oper} {a : Act} (c x y : Operand) (b : Bool) (v : Value) (hw : Region.wanted o (yielded ops a.tmps) = true) (ho : o.op = .pick c x y) (hc : a.eval c = .bool b) (hx : (if b then a.eval x else a.eval y) = v) : YieldsIf P ops S o v a :=
 zbw v hw (fun w _ => by
  unfold execOp
  cases b <;> simp only [ho, hc, Bool.false_eq_true, if_false, if_true] at hx ⊢ <;> simp [asBool, hx])
end
end
set_option maxRecDepth 100000 in
set_option maxHeartbeats 4000000 in
theorem rmay_f (n : List UInt8) (w : World) (hn : n.length = 32) (hD : GlobD w) (hG : Glob w) : Calls Tryz.prog 9 #[.agg (n.map bval).toArray] w fun e w' => e = .returned (.bool (mayB n)) ∧ Below w.heap.size w w' := by
 have HNL := Lib.hid hn
 have HGD := Lib.hid hD
 have HGR := Lib.hid hG
 have HB := Lib.hid (zeg w (n.map bval) 23)
 clear hn hD hG
 go_enter Tryz.func9, Tryz.ntmps9
 go_upto_region 1 with (fail)
 obtain ⟨H1, HE⟩ := HB.out
 change Code.wp _ _ _ _ (w.alloc (.cells (n.map bval).toArray 23))
 generalize w.alloc (.cells (n.map bval).toArray 23) = wa at *
 obtain ⟨A, hA⟩ : ∃ A, A = w.heap.size := ⟨_, rfl⟩
 rw [← hA] at H1 ⊢
 have HN := Lib.hid H1
 have HE : Hid (Ext w wa) := Lib.hid HE
 clear hA HB H1
 go_wp2_with (refine zag rfl _ _ rfl A rfl _ _ _ _ HN.out Tryz.underlying23 (zae HNL.out) ?_)
 refine (rread_f n wa HNL.out (HGD.out.ext HE.out) (HGR.out.ext HE.out)).mono ?_
 rintro e wb ⟨cs, rfl, hl, ho, hP, hb⟩
 have HE := Lib.hid (HE.out.trans hb)
 have HCL := Lib.hid hl
 have HCO := Lib.hid ho
 obtain ⟨mb, hmb⟩ : ∃ z, z = mayB n := ⟨_, rfl⟩
 rw [← hmb]
 have HMB := Lib.hid hmb
 clear hl ho hP hb HN hmb
 have HZ := Lib.hid (Blk.made wb (ints .i64 (List.replicate 64 0)) 48)
 have HEA := Lib.hid (Ext.alloc wb (.cells (ints .i64 (List.replicate 64 0)).toArray 48))
 have HL : Hid (cs.length = (ints .i64 (List.replicate 64 0)).length) := Lib.hid (by rw [HCL.out, zab]; rfl)
 have HI : Hid ((Tryz.prog.info? 48).map (·.size) = some cs.length) := Lib.hid (by rw [HCL.out]; kernel_rfl)
 go_upto_region 2 with (refine zac rfl _ _ _ rfl wb.heap.size cs rfl rfl _ _ HZ.out HL.out HI.out HCO.out ?_; intro wc hb2 hg2)
 have HX := Lib.hid (zad HEA.out hg2 (Nat.le_refl _))
 have HE := Lib.hid (HE.out.trans HX.out)
 clear hb2 hg2 HZ HEA HX
 go_wp2_with fail
 go_ret
 exact ⟨by rw [HMB.out]; rfl, HE.out⟩
set_option maxRecDepth 100000 in
set_option maxHeartbeats 8000000 in
theorem curveVerifies_any (key gb : List UInt8) (v : Value) (m : List UInt8) (w : World) (ha : key.length = 32) (hg : gb.length = 64) (ht : Row1 w v (m.map bval)) (hR : GlobRQ w) (hT : GlobT w) (hG0 : GlobC w) (hK : GlobK5 w) (hO : GlobO w) (hD : GlobD w) (hL : Glob w) (hX : GlobX w) (hY : GlobY w) : Calls Tryz.prog 3 #[.agg (key.map bval).toArray, .agg (gb.map bval).toArray, v] w fun e w' => e = .returned (.bool true) ∧ Below w.heap.size w w' := by
 have HAL := Lib.hid ha
 have HGL2 := Lib.hid hg
 clear ha hg
 obtain ⟨tA, tC, hform, hlc, hcm, _⟩ := id ht
 rw [List.length_map] at hform hlc
 subst hform
 unfold maxLen at hcm
 have Ht := Lib.hid ht
 clear ht
 obtain ⟨iq, hq0, hq1, hq2⟩ := info_two (P := Tryz.prog) (t := 26) (z := .slice none 0 0) (n := 1) (by kernel_rfl)
 have HQ0 := Lib.hid hq0
 have HQ1 := Lib.hid hq1
 have HQ2 := Lib.hid hq2
 clear hq0 hq1 hq2
 have HGC := Lib.hid hG0
 clear hG0
 have HGR := Lib.hid hR
 have HGT := Lib.hid hT
 have HGK := Lib.hid hK
 have HGO := Lib.hid hO
 have HGD := Lib.hid hD
 have HGL := Lib.hid hL
 have HGX := Lib.hid hX
 have HGY := Lib.hid hY
 clear hR hT hK hO hD hL hX hY
 have HB := Lib.hid (boxes2 w (key.map bval) (gb.map bval) 23 25)
 go_enter Tryz.func3, Tryz.ntmps3
 go_upto_region 1 with (fail)
 obtain ⟨H1, H2, HE⟩ := HB.out
 change Code.wp _ _ _ _ (World.alloc (World.alloc w (.cells (key.map bval).toArray 23)) (.cells (gb.map bval).toArray 25))
 generalize (World.alloc (World.alloc w (.cells (key.map bval).toArray 23)) (.cells (gb.map bval).toArray 25)) = wa at *
 obtain ⟨A, hA⟩ : ∃ A, A = w.heap.size := ⟨_, rfl⟩
 have HAW : Hid (w.heap.size ≤ A) := Lib.hid (by omega)
 rw [← hA] at H1 H2 ⊢
 have H1 := Lib.hid H1
 have H2 := Lib.hid H2
 have HE : Hid (Ext w wa) := Lib.hid HE
 clear hA HB
 go_wp2_with fail
 refine (alive_any13 _ (HGR.out.ext HE.out) (HGT.out.ext HE.out) (HGC.out.ext HE.out)).mono ?_
 rintro e w5 ⟨rfl, hb⟩
 have H1 := Lib.hid (zaa H1.out hb)
 have H2 := Lib.hid (zaa H2.out hb)
 have HE := Lib.hid (HE.out.trans hb)
 clear hb
 generalize w5 = w6 at *
 by_cases h3 : 1000 < m.length
 ·have h3' : (1000 : Int) < (m.length : Int) := by omega
  go_wp2_with fail
  go_ret
  exact ⟨rfl, HE.out⟩
 ·have h3' : (m.length : Int) ≤ 1000 := by omega
  have d3 : decide (1000 < (m.length : Int)) = false := decide_eq_false (by omega)
  have HLS : Hid (m.length ≤ 1000) := Lib.hid (by omega)
  clear h3
  obtain ⟨vb, hvb⟩ : ∃ k, verB key gb m = k := ⟨_, rfl⟩
  have HVB := Lib.hid hvb
  clear hvb
  obtain ⟨mb, hmb⟩ : ∃ k, mayB key = k := ⟨_, rfl⟩
  have HMB := Lib.hid hmb
  clear hmb
  go_wp2_with fail
  have B0 : Ext w6 w6.drew := Ext.drew _
  refine wp_region_held_drew (S := fun w' => Ext w6 w') (by kernel_rfl) B0 (fun hHeld => ?_)
  refine tke 0 (.agg ((key).map bval).toArray) rfl (yieldsIf_load_mid (by rfl) _ _ rfl A 0 rfl _ _ (fun w h => zas H1.out h) Tryz.underlying23 rfl (zae HAL.out)) hHeld ?_
  simp only [Act.put, nrm]
  refine tke 1 (.agg ((gb).map bval).toArray) rfl (yieldsIf_load_mid (by rfl) _ _ rfl (A + 1) 0 rfl _ _ (fun w h => zas H2.out h) Tryz.underlying25 rfl (zce HGL2.out)) hHeld ?_
  simp only [Act.put, nrm]
  refine tke 2 (.slice tA m.length tC) rfl (zcm _ (.slice tA m.length tC) (by rfl) rfl rfl) hHeld ?_
  simp only [Act.put, nrm]
  refine tke 5 (.agg ((key).map bval).toArray) rfl (yieldsIf_load_mid (by rfl) _ _ rfl A 0 rfl _ _ (fun w h => zas H1.out h) Tryz.underlying23 rfl (zae HAL.out)) hHeld ?_
  simp only [Act.put, nrm]
  refine tke 6 (.agg ((gb).map bval).toArray) rfl (yieldsIf_load_mid (by rfl) _ _ rfl (A + 1) 0 rfl _ _ (fun w h => zas H2.out h) Tryz.underlying25 rfl (zce HGL2.out)) hHeld ?_
  simp only [Act.put, nrm]
  refine tke 7 (.slice tA m.length tC) rfl (zcm _ (.slice tA m.length tC) (by rfl) rfl rfl) hHeld ?_
  simp only [Act.put, nrm]
  refine rdy 3 rfl fun K hK => ?_
  refine zao (by rfl) ?_
  refine zbr (some 20) _ _ _ _ rfl rfl #[.slice tA m.length tC] iq (.slice none 0 0) Tryz.underlying35 HQ0.out HQ1.out (by rw [HQ2.out]; decide) (by rw [HQ2.out]; decide) (by rw [HQ2.out]; kernel_rfl) ?_
  obtain ⟨m1, hm1⟩ : ∃ wNew, wNew = World.alloc w6.drew (.cells #[.slice tA m.length tC] 26) := ⟨_, rfl⟩
  rw [← hm1]
  have b1 : Ext w6.drew m1 := by rw [hm1]; exact Ext.alloc _ _
  obtain ⟨g1, hg1⟩ : ∃ gNew, gNew = (w6.drew).heap.size := ⟨_, rfl⟩
  rw [← hg1]
  have r1 : Row1 m1 (.slice (some ⟨g1, 0, none⟩) 1 1) [.slice tA m.length tC] := by rw [hm1, hg1]; exact Row1.made _ _ _ _ _ _ rfl rfl rfl (by unfold maxLen; omega)
  clear hm1 hg1
  have N1 : Ext w6 m1 := B0.trans b1
  refine hK.out _ _ N1 (fun hHeld => ?_)
  clear hK K
  try simp only [Act.put, nrm]
  refine rdy 4 rfl fun K hK => ?_
  go_simp
  have hve := cver_rows key gb m _ [m] _ HAL.out HGL2.out (rowB1 r1 ((Ht.out.below HE.out).below N1)) (by simp) (by have := HLS.out; omega) (by simp) (HGR.out.ext (HE.out.trans N1)) (HGT.out.ext (HE.out.trans N1)) (HGC.out.ext (HE.out.trans N1))
  rw [HVB.out] at hve
  refine (hve).mono ?_
  rintro e m2 ⟨rfl, b2⟩
  have r1 := r1.below b2
  have N2 : Ext w6 m2 := N1.trans b2
  refine hK.out _ _ N2 (fun hHeld => ?_)
  clear hK K
  try simp only [Act.put, nrm]
  refine rdy 8 rfl fun K hK => ?_
  go_simp
  have hrv := rverify_f key gb m _ _ HAL.out HGL2.out ((Ht.out.below HE.out).below N2) (by have := HLS.out; omega) (HGK.out.ext (HE.out.trans N2)) (HGO.out.ext (HE.out.trans N2)) (HGD.out.ext (HE.out.trans N2)) (HGL.out.ext (HE.out.trans N2)) (HGX.out.ext (HE.out.trans N2)) (HGY.out.ext (HE.out.trans N2))
  rw [HVB.out] at hrv
  refine (hrv).mono ?_
  rintro e m3 ⟨rfl, b3⟩
  have r1 := r1.below b3
  have N3 : Ext w6 m3 := N2.trans b3
  refine hK.out _ _ N3 (fun hHeld => ?_)
  clear hK K
  try simp only [Act.put, nrm]
  refine tke 9 (.bool true) rfl (yi_eqb _ _ _ _ vb vb true (by simp) Tryz.underlying4 (by rfl) rfl rfl rfl) hHeld ?_
  simp only [Act.put, nrm]
  refine tke 10 (.bool true) rfl (zcm _ (.bool true) (by rfl) rfl rfl) hHeld ?_
  simp only [Act.put, nrm]
  refine tke 11 (.agg ((key).map bval).toArray) rfl (yieldsIf_load_mid (by rfl) _ _ rfl A 0 rfl _ _ (fun w h => zas H1.out h) Tryz.underlying23 rfl (zae HAL.out)) hHeld ?_
  simp only [Act.put, nrm]
  refine tke 13 (.agg ((key).map bval).toArray) rfl (yieldsIf_load_mid (by rfl) _ _ rfl A 0 rfl _ _ (fun w h => zas H1.out h) Tryz.underlying23 rfl (zae HAL.out)) hHeld ?_
  simp only [Act.put, nrm]
  refine rdy 12 rfl fun K hK => ?_
  go_simp
  have hmc := CMay_num key _ HAL.out (HGC.out.ext (HE.out.trans N3))
  rw [HMB.out] at hmc
  refine (hmc).mono ?_
  rintro e m4 ⟨rfl, b4⟩
  have r1 := r1.below b4
  have N4 : Ext w6 m4 := N3.trans b4
  refine hK.out _ _ N4 (fun hHeld => ?_)
  clear hK K
  try simp only [Act.put, nrm]
  refine rdy 14 rfl fun K hK => ?_
  go_simp
  have hmr := rmay_f key _ HAL.out (HGD.out.ext (HE.out.trans N4)) (HGL.out.ext (HE.out.trans N4))
  rw [HMB.out] at hmr
  refine (hmr).mono ?_
  rintro e m5 ⟨rfl, b5⟩
  have r1 := r1.below b5
  have N5 : Ext w6 m5 := N4.trans b5
  refine hK.out _ _ N5 (fun hHeld => ?_)
  clear hK K
  try simp only [Act.put, nrm]
  refine tke 15 (.bool true) rfl (yi_eqb _ _ _ _ mb mb true (by simp) Tryz.underlying4 (by rfl) rfl rfl rfl) hHeld ?_
  simp only [Act.put, nrm]
  refine tke 16 (.bool true) rfl (yi_pick _ _ _ true _ (by rfl) rfl rfl rfl) hHeld ?_
  simp only [Act.put, nrm]
  refine rdy 17 rfl fun K hK => ?_
  go_simp
  refine hK.out _ _ N5 (fun hHeld => ?_)
  clear hK K
  try simp only [Act.put, nrm]
  refine dne ?_
  go_wp2_with fail
  go_ret
  exact ⟨rfl, HE.out.trans N5⟩
end Go.Proofs.YtckggbkoabmjiaaGreatDoor
