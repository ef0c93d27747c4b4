/- The walks of the code's joins of powers. Each theorem names its own conditions. -/
import Derived.Test.YtmiapjmdolecbaaDoorFldSq
namespace Go.Proofs.YtmiapjmdolecbaaDoor
open Go.RowKit
set_option linter.unusedVariables false
set_option linter.unusedSimpArgs false

set_option maxHeartbeats 4000000 in
theorem joined_any (x : L5) (n : Nat) (y : L5) (hx : x.lt 18014398509481984) (hy : y.lt 18014398509481984) (hn : n < 1000) (w : World) :
    Calls Tryd.prog 14 #[x.v, .int .i64 n, y.v] w fun e w' => e = .returned (joinL x n y).v ∧ Below w.heap.size w w' := by
  have HX := Lib.hid hx
  have HY := Lib.hid hy
  have HN := Lib.hid hn
  have HB := Lib.hid (boxes3 w x.vs y.vs zero5 33 33 33)
  clear hx hy hn
  unfold L5.v
  go_enter Tryd.func14, Tryd.ntmps14
  go_wp2_with fail
  change Code.wp _ _ _ _ (((w.alloc (.cells x.vs.toArray 33)).alloc (.cells y.vs.toArray 33)).alloc (.cells zero5.toArray 33))
  generalize ((w.alloc (.cells x.vs.toArray 33)).alloc (.cells y.vs.toArray 33)).alloc (.cells zero5.toArray 33) = w0 at *
  obtain ⟨h1, h2, h3, h4⟩ := HB.out
  obtain ⟨A, hA⟩ : ∃ A, A = w.heap.size := ⟨_, rfl⟩
  rw [← hA] at h1 h2 h3 ⊢
  have hA2 : w.heap.size ≤ A := by omega
  have H1 := Lib.hid h1
  have H2 := Lib.hid h2
  have H3 := Lib.hid h3
  have HE : Hid (Ext w w0) := Lib.hid h4
  clear h1 h2 h3 h4 HB hA
  refine wp_region_from 5 1 5 rfl (by kernel_rfl) (by kernel_rfl) (fun d v c a w h => by cases d <;> exact h) (by kernel_rfl) ?_
  refine det_load _ _ A x.vs _ (by rfl) rfl rfl (fun w hw => ext_range H1.out hw) Tryd.underlying33 rfl Tryd.arr33 ?_
  simp only [Act.put, List.setIfInBounds_toArray, List.set_cons_zero, List.set_cons_succ]
  refine det_move _ (.int .i64 (n : Int)) (by rfl) rfl rfl ?_
  simp only [Act.put, List.setIfInBounds_toArray, List.set_cons_zero, List.set_cons_succ]
  refine det_call _ _ _ [x.v, .int .i64 (n : Int)] ((sqL x n).v) (by rfl) rfl Tryd.call26 rfl (fun w hw => squared_any x n HX.out HN.out w) ?_
  simp only [Act.put, List.setIfInBounds_toArray, List.set_cons_zero, List.set_cons_succ]
  refine det_load _ _ (A + 1) y.vs _ (by rfl) rfl rfl (fun w hw => ext_range H2.out hw) Tryd.underlying33 rfl Tryd.arr33 ?_
  simp only [Act.put, List.setIfInBounds_toArray, List.set_cons_zero, List.set_cons_succ]
  refine det_call _ _ _ [(sqL x n).v, y.v] ((joinL x n y).v) (by rfl) rfl Tryd.call16 rfl (fun w hw => times_any (sqL x n) y (sqL_lt HX.out n) HY.out w) ?_
  simp only [Act.put, List.setIfInBounds_toArray, List.set_cons_zero, List.set_cons_succ]
  refine det_nil (end_set (k := 5) _ _ _ _ (A + 1 + 1) (joinL x n y).vs zero5 rfl (by kernel_rfl) (by kernel_rfl) (by kernel_rfl) rfl rfl rfl rfl H3.out rfl Tryd.arr33 (L5.vs_one _) (fun w8 hb8 hg8 => ?_))
  simp only [Act.put]
  go_wp2_with fail
  exact bodyPost_ret (v := (joinL x n y).v) (result_row (by rfl) _ (A + 1 + 1) _ _ _ (by rfl) hb8 Tryd.underlying33 rfl Tryd.arr33) rfl ⟨rfl, ext_grown HE.out hg8 (by omega)⟩

set_option maxHeartbeats 4000000 in
theorem ones_any (x : L5) (hx : x.lt 18014398509481984) (w : World) :
    Calls Tryd.prog 15 #[x.v] w fun e w' => e = .returned (onesL x).v ∧ Below w.heap.size w w' := by
  have HX := Lib.hid hx
  have HB := Lib.hid (boxes2 w x.vs zero5 33 33)
  clear hx
  unfold L5.v
  go_enter Tryd.func15, Tryd.ntmps15
  go_wp2_with (refine wpList_load_blk rfl _ _ rfl w.heap.size rfl _ _ _ _ HB.out.1 Tryd.underlying33 Tryd.arr33 ?_)
  change Calls _ _ _ ((w.alloc (.cells x.vs.toArray 33)).alloc (.cells zero5.toArray 33)) _
  generalize (w.alloc (.cells x.vs.toArray 33)).alloc (.cells zero5.toArray 33) = w0 at *
  obtain ⟨h1, h2, h4⟩ := HB.out
  obtain ⟨A, hA⟩ : ∃ A, A = w.heap.size := ⟨_, rfl⟩
  rw [← hA] at h1 h2 ⊢
  have hA2 : w.heap.size ≤ A := by omega
  have H1 := Lib.hid h1
  have HR := Lib.hid h2
  have HE : Hid (Ext w w0) := Lib.hid h4
  clear h1 h2 h4 HB hA
  refine (joined_any x 1 x HX.out HX.out (by omega) _).mono ?_
  rintro e w1 ⟨rfl, hb⟩
  have H1 := Lib.hid (ext_blk H1.out hb)
  have HR := Lib.hid (ext_blk HR.out hb)
  have HE := Lib.hid (HE.out.trans hb)
  clear hb
  obtain ⟨v1, hv⟩ : ∃ v, v = o2 x := ⟨_, rfl⟩
  rw [show joinL x 1 x = v1 from by rw [hv]; rfl]
  have LTv1 : Hid (v1.lt 18014398509481984) := Lib.hid (by rw [hv]; exact o2_lt HX.out)
  have HVEv1 := Lib.hid hv
  clear hv
  obtain ⟨p1, hp1⟩ : ∃ p, p = w1.heap.size := ⟨_, rfl⟩
  have HV1 := Lib.hid (Blk.made w1 v1.vs 33)
  have HX1 := Lib.hid (Ext.alloc w1 (.cells v1.vs.toArray 33))
  have H1 := Lib.hid (ext_blk H1.out HX1.out)
  have HR := Lib.hid (ext_blk HR.out HX1.out)
  have HE := Lib.hid (HE.out.trans HX1.out)
  rw [← hp1] at HV1
  clear HX1
  unfold L5.v L5.vs
  go_wp2_with fail
  rw [← hp1]
  change Calls _ _ #[v1.v, .int .i64 ((2 : Nat) : Int), v1.v] (w1.alloc (.cells v1.vs.toArray 33)) _
  generalize w1.alloc (.cells v1.vs.toArray 33) = y1 at *
  clear hp1
  refine (joined_any v1 2 v1 LTv1.out LTv1.out (by omega) _).mono ?_
  rintro e w2 ⟨rfl, hb⟩
  have H1 := Lib.hid (ext_blk H1.out hb)
  have HV1 := Lib.hid (ext_blk HV1.out hb)
  have HR := Lib.hid (ext_blk HR.out hb)
  have HE := Lib.hid (HE.out.trans hb)
  clear hb
  obtain ⟨v2, hv⟩ : ∃ v, v = o4 x := ⟨_, rfl⟩
  rw [show joinL v1 2 v1 = v2 from by rw [hv, HVEv1.out]; rfl]
  have LTv2 : Hid (v2.lt 18014398509481984) := Lib.hid (by rw [hv]; exact o4_lt HX.out)
  have HVEv2 := Lib.hid hv
  clear hv
  obtain ⟨p2, hp2⟩ : ∃ p, p = w2.heap.size := ⟨_, rfl⟩
  have HV2 := Lib.hid (Blk.made w2 v2.vs 33)
  have HX1 := Lib.hid (Ext.alloc w2 (.cells v2.vs.toArray 33))
  have H1 := Lib.hid (ext_blk H1.out HX1.out)
  have HV1 := Lib.hid (ext_blk HV1.out HX1.out)
  have HR := Lib.hid (ext_blk HR.out HX1.out)
  have HE := Lib.hid (HE.out.trans HX1.out)
  rw [← hp2] at HV2
  clear HX1
  have ccx0 := H1.out.cell 0
  have ccx1 := H1.out.cell 1
  have ccx2 := H1.out.cell 2
  have ccx3 := H1.out.cell 3
  have ccx4 := H1.out.cell 4
  simp only [L5.vs, List.getElem?_cons_zero, List.getElem?_cons_succ] at ccx0 ccx1 ccx2 ccx3 ccx4
  unfold L5.v L5.vs
  go_wp2_with fail
  rw [← hp2]
  change Calls _ _ #[v2.v, .int .i64 ((1 : Nat) : Int), x.v] (w2.alloc (.cells v2.vs.toArray 33)) _
  generalize w2.alloc (.cells v2.vs.toArray 33) = y2 at *
  clear hp2 ccx0 ccx1 ccx2 ccx3 ccx4
  refine (joined_any v2 1 x LTv2.out HX.out (by omega) _).mono ?_
  rintro e w3 ⟨rfl, hb⟩
  have H1 := Lib.hid (ext_blk H1.out hb)
  have HV1 := Lib.hid (ext_blk HV1.out hb)
  have HV2 := Lib.hid (ext_blk HV2.out hb)
  have HR := Lib.hid (ext_blk HR.out hb)
  have HE := Lib.hid (HE.out.trans hb)
  clear hb
  obtain ⟨v3, hv⟩ : ∃ v, v = o5 x := ⟨_, rfl⟩
  rw [show joinL v2 1 x = v3 from by rw [hv, HVEv2.out]; rfl]
  have LTv3 : Hid (v3.lt 18014398509481984) := Lib.hid (by rw [hv]; exact o5_lt HX.out)
  have HVEv3 := Lib.hid hv
  clear hv
  obtain ⟨p3, hp3⟩ : ∃ p, p = w3.heap.size := ⟨_, rfl⟩
  have HV3 := Lib.hid (Blk.made w3 v3.vs 33)
  have HX1 := Lib.hid (Ext.alloc w3 (.cells v3.vs.toArray 33))
  have H1 := Lib.hid (ext_blk H1.out HX1.out)
  have HV1 := Lib.hid (ext_blk HV1.out HX1.out)
  have HV2 := Lib.hid (ext_blk HV2.out HX1.out)
  have HR := Lib.hid (ext_blk HR.out HX1.out)
  have HE := Lib.hid (HE.out.trans HX1.out)
  rw [← hp3] at HV3
  clear HX1
  unfold L5.v L5.vs
  go_wp2_with fail
  rw [← hp3]
  change Calls _ _ #[v3.v, .int .i64 ((5 : Nat) : Int), v3.v] (w3.alloc (.cells v3.vs.toArray 33)) _
  generalize w3.alloc (.cells v3.vs.toArray 33) = y3 at *
  clear hp3
  refine (joined_any v3 5 v3 LTv3.out LTv3.out (by omega) _).mono ?_
  rintro e w4 ⟨rfl, hb⟩
  have H1 := Lib.hid (ext_blk H1.out hb)
  have HV1 := Lib.hid (ext_blk HV1.out hb)
  have HV2 := Lib.hid (ext_blk HV2.out hb)
  have HV3 := Lib.hid (ext_blk HV3.out hb)
  have HR := Lib.hid (ext_blk HR.out hb)
  have HE := Lib.hid (HE.out.trans hb)
  clear hb
  obtain ⟨v4, hv⟩ : ∃ v, v = o10 x := ⟨_, rfl⟩
  rw [show joinL v3 5 v3 = v4 from by rw [hv, HVEv3.out]; rfl]
  have LTv4 : Hid (v4.lt 18014398509481984) := Lib.hid (by rw [hv]; exact o10_lt HX.out)
  have HVEv4 := Lib.hid hv
  clear hv
  obtain ⟨p4, hp4⟩ : ∃ p, p = w4.heap.size := ⟨_, rfl⟩
  have HV4 := Lib.hid (Blk.made w4 v4.vs 33)
  have HX1 := Lib.hid (Ext.alloc w4 (.cells v4.vs.toArray 33))
  have H1 := Lib.hid (ext_blk H1.out HX1.out)
  have HV1 := Lib.hid (ext_blk HV1.out HX1.out)
  have HV2 := Lib.hid (ext_blk HV2.out HX1.out)
  have HV3 := Lib.hid (ext_blk HV3.out HX1.out)
  have HR := Lib.hid (ext_blk HR.out HX1.out)
  have HE := Lib.hid (HE.out.trans HX1.out)
  rw [← hp4] at HV4
  clear HX1
  unfold L5.v L5.vs
  go_wp2_with fail
  rw [← hp4]
  change Calls _ _ #[v4.v, .int .i64 ((10 : Nat) : Int), v4.v] (w4.alloc (.cells v4.vs.toArray 33)) _
  generalize w4.alloc (.cells v4.vs.toArray 33) = y4 at *
  clear hp4
  refine (joined_any v4 10 v4 LTv4.out LTv4.out (by omega) _).mono ?_
  rintro e w5 ⟨rfl, hb⟩
  have H1 := Lib.hid (ext_blk H1.out hb)
  have HV1 := Lib.hid (ext_blk HV1.out hb)
  have HV2 := Lib.hid (ext_blk HV2.out hb)
  have HV3 := Lib.hid (ext_blk HV3.out hb)
  have HV4 := Lib.hid (ext_blk HV4.out hb)
  have HR := Lib.hid (ext_blk HR.out hb)
  have HE := Lib.hid (HE.out.trans hb)
  clear hb
  obtain ⟨v5, hv⟩ : ∃ v, v = o20 x := ⟨_, rfl⟩
  rw [show joinL v4 10 v4 = v5 from by rw [hv, HVEv4.out]; rfl]
  have LTv5 : Hid (v5.lt 18014398509481984) := Lib.hid (by rw [hv]; exact o20_lt HX.out)
  have HVEv5 := Lib.hid hv
  clear hv
  obtain ⟨p5, hp5⟩ : ∃ p, p = w5.heap.size := ⟨_, rfl⟩
  have HV5 := Lib.hid (Blk.made w5 v5.vs 33)
  have HX1 := Lib.hid (Ext.alloc w5 (.cells v5.vs.toArray 33))
  have H1 := Lib.hid (ext_blk H1.out HX1.out)
  have HV1 := Lib.hid (ext_blk HV1.out HX1.out)
  have HV2 := Lib.hid (ext_blk HV2.out HX1.out)
  have HV3 := Lib.hid (ext_blk HV3.out HX1.out)
  have HV4 := Lib.hid (ext_blk HV4.out HX1.out)
  have HR := Lib.hid (ext_blk HR.out HX1.out)
  have HE := Lib.hid (HE.out.trans HX1.out)
  rw [← hp5] at HV5
  clear HX1
  unfold L5.v L5.vs
  go_wp2_with fail
  rw [← hp5]
  change Calls _ _ #[v5.v, .int .i64 ((20 : Nat) : Int), v5.v] (w5.alloc (.cells v5.vs.toArray 33)) _
  generalize w5.alloc (.cells v5.vs.toArray 33) = y5 at *
  clear hp5
  refine (joined_any v5 20 v5 LTv5.out LTv5.out (by omega) _).mono ?_
  rintro e w6 ⟨rfl, hb⟩
  have H1 := Lib.hid (ext_blk H1.out hb)
  have HV1 := Lib.hid (ext_blk HV1.out hb)
  have HV2 := Lib.hid (ext_blk HV2.out hb)
  have HV3 := Lib.hid (ext_blk HV3.out hb)
  have HV4 := Lib.hid (ext_blk HV4.out hb)
  have HV5 := Lib.hid (ext_blk HV5.out hb)
  have HR := Lib.hid (ext_blk HR.out hb)
  have HE := Lib.hid (HE.out.trans hb)
  clear hb
  obtain ⟨v6, hv⟩ : ∃ v, v = o40 x := ⟨_, rfl⟩
  rw [show joinL v5 20 v5 = v6 from by rw [hv, HVEv5.out]; rfl]
  have LTv6 : Hid (v6.lt 18014398509481984) := Lib.hid (by rw [hv]; exact o40_lt HX.out)
  have HVEv6 := Lib.hid hv
  clear hv
  obtain ⟨p6, hp6⟩ : ∃ p, p = w6.heap.size := ⟨_, rfl⟩
  have HV6 := Lib.hid (Blk.made w6 v6.vs 33)
  have HX1 := Lib.hid (Ext.alloc w6 (.cells v6.vs.toArray 33))
  have H1 := Lib.hid (ext_blk H1.out HX1.out)
  have HV1 := Lib.hid (ext_blk HV1.out HX1.out)
  have HV2 := Lib.hid (ext_blk HV2.out HX1.out)
  have HV3 := Lib.hid (ext_blk HV3.out HX1.out)
  have HV4 := Lib.hid (ext_blk HV4.out HX1.out)
  have HV5 := Lib.hid (ext_blk HV5.out HX1.out)
  have HR := Lib.hid (ext_blk HR.out HX1.out)
  have HE := Lib.hid (HE.out.trans HX1.out)
  rw [← hp6] at HV6
  clear HX1
  have ccv40 := HV4.out.cell 0
  have ccv41 := HV4.out.cell 1
  have ccv42 := HV4.out.cell 2
  have ccv43 := HV4.out.cell 3
  have ccv44 := HV4.out.cell 4
  simp only [L5.vs, List.getElem?_cons_zero, List.getElem?_cons_succ] at ccv40 ccv41 ccv42 ccv43 ccv44
  unfold L5.v L5.vs
  go_wp2_with fail
  rw [← hp6]
  change Calls _ _ #[v6.v, .int .i64 ((10 : Nat) : Int), v4.v] (w6.alloc (.cells v6.vs.toArray 33)) _
  generalize w6.alloc (.cells v6.vs.toArray 33) = y6 at *
  clear hp6 ccv40 ccv41 ccv42 ccv43 ccv44
  refine (joined_any v6 10 v4 LTv6.out LTv4.out (by omega) _).mono ?_
  rintro e w7 ⟨rfl, hb⟩
  have H1 := Lib.hid (ext_blk H1.out hb)
  have HV1 := Lib.hid (ext_blk HV1.out hb)
  have HV2 := Lib.hid (ext_blk HV2.out hb)
  have HV3 := Lib.hid (ext_blk HV3.out hb)
  have HV4 := Lib.hid (ext_blk HV4.out hb)
  have HV5 := Lib.hid (ext_blk HV5.out hb)
  have HV6 := Lib.hid (ext_blk HV6.out hb)
  have HR := Lib.hid (ext_blk HR.out hb)
  have HE := Lib.hid (HE.out.trans hb)
  clear hb
  obtain ⟨v7, hv⟩ : ∃ v, v = o50 x := ⟨_, rfl⟩
  rw [show joinL v6 10 v4 = v7 from by rw [hv, HVEv6.out, HVEv4.out]; rfl]
  have LTv7 : Hid (v7.lt 18014398509481984) := Lib.hid (by rw [hv]; exact o50_lt HX.out)
  have HVEv7 := Lib.hid hv
  clear hv
  obtain ⟨p7, hp7⟩ : ∃ p, p = w7.heap.size := ⟨_, rfl⟩
  have HV7 := Lib.hid (Blk.made w7 v7.vs 33)
  have HX1 := Lib.hid (Ext.alloc w7 (.cells v7.vs.toArray 33))
  have H1 := Lib.hid (ext_blk H1.out HX1.out)
  have HV1 := Lib.hid (ext_blk HV1.out HX1.out)
  have HV2 := Lib.hid (ext_blk HV2.out HX1.out)
  have HV3 := Lib.hid (ext_blk HV3.out HX1.out)
  have HV4 := Lib.hid (ext_blk HV4.out HX1.out)
  have HV5 := Lib.hid (ext_blk HV5.out HX1.out)
  have HV6 := Lib.hid (ext_blk HV6.out HX1.out)
  have HR := Lib.hid (ext_blk HR.out HX1.out)
  have HE := Lib.hid (HE.out.trans HX1.out)
  rw [← hp7] at HV7
  clear HX1
  unfold L5.v L5.vs
  go_wp2_with fail
  rw [← hp7]
  change Calls _ _ #[v7.v, .int .i64 ((50 : Nat) : Int), v7.v] (w7.alloc (.cells v7.vs.toArray 33)) _
  generalize w7.alloc (.cells v7.vs.toArray 33) = y7 at *
  clear hp7
  refine (joined_any v7 50 v7 LTv7.out LTv7.out (by omega) _).mono ?_
  rintro e w8 ⟨rfl, hb⟩
  have H1 := Lib.hid (ext_blk H1.out hb)
  have HV1 := Lib.hid (ext_blk HV1.out hb)
  have HV2 := Lib.hid (ext_blk HV2.out hb)
  have HV3 := Lib.hid (ext_blk HV3.out hb)
  have HV4 := Lib.hid (ext_blk HV4.out hb)
  have HV5 := Lib.hid (ext_blk HV5.out hb)
  have HV6 := Lib.hid (ext_blk HV6.out hb)
  have HV7 := Lib.hid (ext_blk HV7.out hb)
  have HR := Lib.hid (ext_blk HR.out hb)
  have HE := Lib.hid (HE.out.trans hb)
  clear hb
  obtain ⟨v8, hv⟩ : ∃ v, v = o100 x := ⟨_, rfl⟩
  rw [show joinL v7 50 v7 = v8 from by rw [hv, HVEv7.out]; rfl]
  have LTv8 : Hid (v8.lt 18014398509481984) := Lib.hid (by rw [hv]; exact o100_lt HX.out)
  have HVEv8 := Lib.hid hv
  clear hv
  obtain ⟨p8, hp8⟩ : ∃ p, p = w8.heap.size := ⟨_, rfl⟩
  have HV8 := Lib.hid (Blk.made w8 v8.vs 33)
  have HX1 := Lib.hid (Ext.alloc w8 (.cells v8.vs.toArray 33))
  have H1 := Lib.hid (ext_blk H1.out HX1.out)
  have HV1 := Lib.hid (ext_blk HV1.out HX1.out)
  have HV2 := Lib.hid (ext_blk HV2.out HX1.out)
  have HV3 := Lib.hid (ext_blk HV3.out HX1.out)
  have HV4 := Lib.hid (ext_blk HV4.out HX1.out)
  have HV5 := Lib.hid (ext_blk HV5.out HX1.out)
  have HV6 := Lib.hid (ext_blk HV6.out HX1.out)
  have HV7 := Lib.hid (ext_blk HV7.out HX1.out)
  have HR := Lib.hid (ext_blk HR.out HX1.out)
  have HE := Lib.hid (HE.out.trans HX1.out)
  rw [← hp8] at HV8
  clear HX1
  unfold L5.v L5.vs
  go_wp2_with fail
  rw [← hp8]
  change Calls _ _ #[v8.v, .int .i64 ((100 : Nat) : Int), v8.v] (w8.alloc (.cells v8.vs.toArray 33)) _
  generalize w8.alloc (.cells v8.vs.toArray 33) = y8 at *
  clear hp8
  refine (joined_any v8 100 v8 LTv8.out LTv8.out (by omega) _).mono ?_
  rintro e w9 ⟨rfl, hb⟩
  have H1 := Lib.hid (ext_blk H1.out hb)
  have HV1 := Lib.hid (ext_blk HV1.out hb)
  have HV2 := Lib.hid (ext_blk HV2.out hb)
  have HV3 := Lib.hid (ext_blk HV3.out hb)
  have HV4 := Lib.hid (ext_blk HV4.out hb)
  have HV5 := Lib.hid (ext_blk HV5.out hb)
  have HV6 := Lib.hid (ext_blk HV6.out hb)
  have HV7 := Lib.hid (ext_blk HV7.out hb)
  have HV8 := Lib.hid (ext_blk HV8.out hb)
  have HR := Lib.hid (ext_blk HR.out hb)
  have HE := Lib.hid (HE.out.trans hb)
  clear hb
  obtain ⟨v9, hv⟩ : ∃ v, v = o200 x := ⟨_, rfl⟩
  rw [show joinL v8 100 v8 = v9 from by rw [hv, HVEv8.out]; rfl]
  have LTv9 : Hid (v9.lt 18014398509481984) := Lib.hid (by rw [hv]; exact o200_lt HX.out)
  have HVEv9 := Lib.hid hv
  clear hv
  obtain ⟨p9, hp9⟩ : ∃ p, p = w9.heap.size := ⟨_, rfl⟩
  have HV9 := Lib.hid (Blk.made w9 v9.vs 33)
  have HX1 := Lib.hid (Ext.alloc w9 (.cells v9.vs.toArray 33))
  have H1 := Lib.hid (ext_blk H1.out HX1.out)
  have HV1 := Lib.hid (ext_blk HV1.out HX1.out)
  have HV2 := Lib.hid (ext_blk HV2.out HX1.out)
  have HV3 := Lib.hid (ext_blk HV3.out HX1.out)
  have HV4 := Lib.hid (ext_blk HV4.out HX1.out)
  have HV5 := Lib.hid (ext_blk HV5.out HX1.out)
  have HV6 := Lib.hid (ext_blk HV6.out HX1.out)
  have HV7 := Lib.hid (ext_blk HV7.out HX1.out)
  have HV8 := Lib.hid (ext_blk HV8.out HX1.out)
  have HR := Lib.hid (ext_blk HR.out HX1.out)
  have HE := Lib.hid (HE.out.trans HX1.out)
  rw [← hp9] at HV9
  clear HX1
  have ccv70 := HV7.out.cell 0
  have ccv71 := HV7.out.cell 1
  have ccv72 := HV7.out.cell 2
  have ccv73 := HV7.out.cell 3
  have ccv74 := HV7.out.cell 4
  simp only [L5.vs, List.getElem?_cons_zero, List.getElem?_cons_succ] at ccv70 ccv71 ccv72 ccv73 ccv74
  unfold L5.v L5.vs
  go_wp2_with fail
  rw [← hp9]
  change Calls _ _ #[v9.v, .int .i64 ((50 : Nat) : Int), v7.v] (w9.alloc (.cells v9.vs.toArray 33)) _
  generalize w9.alloc (.cells v9.vs.toArray 33) = y9 at *
  clear hp9 ccv70 ccv71 ccv72 ccv73 ccv74
  refine (joined_any v9 50 v7 LTv9.out LTv7.out (by omega) _).mono ?_
  rintro e w10 ⟨rfl, hb⟩
  have H1 := Lib.hid (ext_blk H1.out hb)
  have HV1 := Lib.hid (ext_blk HV1.out hb)
  have HV2 := Lib.hid (ext_blk HV2.out hb)
  have HV3 := Lib.hid (ext_blk HV3.out hb)
  have HV4 := Lib.hid (ext_blk HV4.out hb)
  have HV5 := Lib.hid (ext_blk HV5.out hb)
  have HV6 := Lib.hid (ext_blk HV6.out hb)
  have HV7 := Lib.hid (ext_blk HV7.out hb)
  have HV8 := Lib.hid (ext_blk HV8.out hb)
  have HV9 := Lib.hid (ext_blk HV9.out hb)
  have HR := Lib.hid (ext_blk HR.out hb)
  have HE := Lib.hid (HE.out.trans hb)
  clear hb
  obtain ⟨v10, hv⟩ : ∃ v, v = onesL x := ⟨_, rfl⟩
  rw [show joinL v9 50 v7 = v10 from by rw [hv, HVEv9.out, HVEv7.out]; rfl]
  have LTv10 : Hid (v10.lt 18014398509481984) := Lib.hid (by rw [hv]; exact onesL_lt HX.out)
  have HVEv10 := Lib.hid hv
  clear hv
  go_wp2_with (refine wpList_store_blk rfl _ _ _ rfl (A + 1) v10.vs rfl rfl _ _ HR.out rfl Tryd.arr33 (L5.vs_one _) ?_; intro w11 hb2 hg2)
  exact bodyPost_ret (v := v10.v) (result_row (by rfl) _ (A + 1) _ _ _ (by rfl) hb2 Tryd.underlying33 rfl Tryd.arr33) rfl ⟨by rw [HVEv10.out]; rfl, ext_grown HE.out hg2 (by omega)⟩

end Go.Proofs.YtmiapjmdolecbaaDoor
