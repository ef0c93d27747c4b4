/- Lemmas. -/
import Derived.Test.YthafgicndklgfaaGreatDoorQy06
namespace Go.Proofs.YthafgicndklgfaaGreatDoor
set_option linter.unusedVariables false
set_option maxRecDepth 100000
set_option maxHeartbeats 32000000
set_option linter.unusedSimpArgs false
open Go.RowKit
theorem squared_any (x : L5) (n : Nat) (hx : x.lt 18014398509481984) (hn : n < 1000) (w : World) :
  Calls Tryz.prog 114 #[x.v, .int .i64 n] w fun e w' => e = .returned (sqL x n).v ∧ Below w.heap.size w w' := by
 have HX := jh hx
 have HN := jh hn
 have HB := jh (boxes2 w x.vs zero5 147 147)
 clear hx hn
 unfold L5.v
 go_enter Tryz.func114, Tryz.ntmps114
 go_wp2_with fail
 change Code.wp _ _ _ _ ((w.alloc (.cells x.vs.toArray 147)).alloc (.cells zero5.toArray 147))
 generalize (w.alloc (.cells x.vs.toArray 147)).alloc (.cells zero5.toArray 147) = w0 at *
 obtain ⟨h1, h2, h4⟩ := HB.out
 obtain ⟨A, hA⟩ : ∃ A, A = w.heap.size := ⟨_, rfl⟩
 rw [← hA] at h1 h2 ⊢
 have hA2 : w.heap.size ≤ A := by omega
 have H1 := jh h1
 have H2 := jh h2
 have HE : Hid (Ext w w0) := jh h4
 clear h1 h2 h4 HB hA
 go_loopw [6] (fun i wr => ∃ k : Nat, k ≤ n ∧ i = .int .i64 k ∧ Blk wr A (sqL x k).vs 147 ∧ Blk wr (A + 1) zero5 147 ∧ Ext w wr) (fun i _ => n - (intOf i).toNat)
 case atStart => exact ⟨0, q149 _, rfl, H1.out, H2.out, HE.out⟩
 case round =>
  clear H1 H2 HE
  obtain ⟨k, hk, rfl, hb1, hb2, hbe⟩ := hrel
  have i0' : (0 : Int) ≤ (k : Int) := Int.natCast_nonneg _
  have hn := HN.out
  by_cases hlt : k < n
  ·have i1 : (k : Int) < (n : Int) := by omega
   have HT := jh (zcw (sqL x k) (sqL x k) (sqL_lt HX.out k) (sqL_lt HX.out k))
   have H1 := jh hb1
   have H2 := jh hb2
   have HE := jh hbe
   clear hb1 hb2 hbe
   go_wp2_with (refine slb A H1.out q104 Tryz.arr147 ?_)
   refine (HT.out _).mono ?_
   rintro e w1 ⟨rfl, hb1⟩
   have H1 := xb H1 hb1
   have H2 := xb H2 hb1
   have HE := xt HE hb1
   clear hb1
   go_wp2_with (refine ssb A (sqL x (k + 1)).vs H1.out rfl Tryz.arr147 (L5.vs_one _) ?_; intro w2 hb2 hg2)
   go_roundw
   case rel => exact ⟨k + 1, by omega, by go_num, hb2, H2.out.grown hg2 (by simp), zab HE.out hg2 hA2⟩
   case measure => simp [intOf]; omega
  ·have hk' : k = n := by omega
   subst hk'
   have H1 := jh hb1
   have H2 := jh hb2
   have HE := jh hbe
   clear hb1 hb2 hbe
   go_wp2_with (first | (refine slb A H1.out q104 Tryz.arr147 ?_) | (refine ssb (A + 1) (sqL x k).vs H2.out rfl Tryz.arr147 (L5.vs_one _) ?_; intro w2 hb2 hg2))
   exact bodyPost_ret (v := (sqL x k).v) (zap (by rfl) _ (A + 1) _ _ _ (by rfl) hb2 q104 rfl Tryz.arr147) rfl ⟨rfl, zab HE.out hg2 (by omega)⟩
theorem zcu (x : L5) (n : Nat) (y : L5) (hx : x.lt 18014398509481984) (hy : y.lt 18014398509481984) (hn : n < 1000) (w : World) :
  Calls Tryz.prog 115 #[x.v, .int .i64 n, y.v] w fun e w' => e = .returned (joinL x n y).v ∧ Below w.heap.size w w' := by
 have HX := jh hx
 have HY := jh hy
 have HN := jh hn
 have HB := jh (boxes3 w x.vs y.vs zero5 147 147 147)
 clear hx hy hn
 unfold L5.v
 go_enter Tryz.func115, Tryz.ntmps115
 go_wp2_with fail
 change Code.wp _ _ _ _ (((w.alloc (.cells x.vs.toArray 147)).alloc (.cells y.vs.toArray 147)).alloc (.cells zero5.toArray 147))
 generalize ((w.alloc (.cells x.vs.toArray 147)).alloc (.cells y.vs.toArray 147)).alloc (.cells zero5.toArray 147) = w0 at *
 obtain ⟨h1, h2, h3, h4⟩ := HB.out
 obtain ⟨A, hA⟩ : ∃ A, A = w.heap.size := ⟨_, rfl⟩
 rw [← hA] at h1 h2 h3 ⊢
 have hA2 : w.heap.size ≤ A := by omega
 have H1 := jh h1
 have H2 := jh h2
 have H3 := jh h3
 have HE : Hid (Ext w w0) := jh h4
 clear h1 h2 h3 h4 HB hA
 refine swf 5 1 5 ?_
 refine zax _ _ A x.vs _ (by rfl) rfl rfl (fun w hw => zaq H1.out hw) q104 rfl Tryz.arr147 ?_
 simp only [nm]
 refine zas _ (.int .i64 (n : Int)) (by rfl) rfl rfl ?_
 simp only [nm]
 refine sdc [x.v, .int .i64 (n : Int)] ((sqL x n).v) Tryz.call114 (fun w hw => squared_any x n HX.out HN.out w) ?_
 simp only [nm]
 refine zax _ _ (A + 1) y.vs _ (by rfl) rfl rfl (fun w hw => zaq H2.out hw) q104 rfl Tryz.arr147 ?_
 simp only [nm]
 refine sdc [(sqL x n).v, y.v] ((joinL x n y).v) q148 (fun w hw => zcw (sqL x n) y (sqL_lt HX.out n) HY.out w) ?_
 simp only [nm]
 refine zao (zec (k := 5) _ _ _ _ (A + 1 + 1) (joinL x n y).vs zero5 rfl (by kernel_rfl) (by kernel_rfl) (by kernel_rfl) rfl rfl rfl rfl H3.out rfl Tryz.arr147 (L5.vs_one _) (fun w8 hb8 hg8 => ?_))
 simp only [Act.put]
 go_wp2_with fail
 exact bodyPost_ret (v := (joinL x n y).v) (zap (by rfl) _ (A + 1 + 1) _ _ _ (by rfl) hb8 q104 rfl Tryz.arr147) rfl ⟨rfl, zab HE.out hg8 (by omega)⟩
theorem ones_any (x : L5) (hx : x.lt 18014398509481984) (w : World) :
  Calls Tryz.prog 116 #[x.v] w fun e w' => e = .returned (onesL x).v ∧ Below w.heap.size w w' := by
 have HX := jh hx
 have HB := jh (boxes2 w x.vs zero5 147 147)
 clear hx
 unfold L5.v
 go_enter Tryz.func116, Tryz.ntmps116
 go_wp2_with (refine slb w.heap.size HB.out.1 q104 Tryz.arr147 ?_)
 change Calls _ _ _ ((w.alloc (.cells x.vs.toArray 147)).alloc (.cells zero5.toArray 147)) _
 generalize (w.alloc (.cells x.vs.toArray 147)).alloc (.cells zero5.toArray 147) = w0 at *
 obtain ⟨h1, h2, h4⟩ := HB.out
 obtain ⟨A, hA⟩ : ∃ A, A = w.heap.size := ⟨_, rfl⟩
 rw [← hA] at h1 h2 ⊢
 have hA2 : w.heap.size ≤ A := by omega
 have H1 := jh h1
 have HR := jh h2
 have HE : Hid (Ext w w0) := jh h4
 clear h1 h2 h4 HB hA
 refine (zcu x 1 x HX.out HX.out (by omega) _).mono ?_
 rintro e w1 ⟨rfl, hb⟩
 have H1 := xb H1 hb
 have HR := xb HR hb
 have HE := xt HE hb
 clear hb
 obtain ⟨v1, hv⟩ : ∃ v, v = o2 x := ⟨_, rfl⟩
 rw [show joinL x 1 x = v1 from by rw [hv]; rfl]
 have LTv1 : Hid (v1.lt 18014398509481984) := jh (by rw [hv]; exact o2_lt HX.out)
 have HVEv1 := jh hv
 clear hv
 obtain ⟨p1, hp1⟩ : ∃ p, p = w1.heap.size := ⟨_, rfl⟩
 have HV1 := jh (Blk.made w1 v1.vs 147)
 have HX1 := jh (Ext.alloc w1 (.cells v1.vs.toArray 147))
 have H1 := xb H1 HX1.out
 have HR := xb HR HX1.out
 have HE := xt HE HX1.out
 rw [← hp1] at HV1
 clear HX1
 unfold L5.v L5.vs
 go_wp2_with fail
 rw [← hp1]
 change Calls _ _ #[v1.v, .int .i64 ((2 : Nat) : Int), v1.v] (w1.alloc (.cells v1.vs.toArray 147)) _
 generalize w1.alloc (.cells v1.vs.toArray 147) = y1 at *
 clear hp1
 refine (zcu v1 2 v1 LTv1.out LTv1.out (by omega) _).mono ?_
 rintro e w2 ⟨rfl, hb⟩
 have H1 := xb H1 hb
 have HV1 := xb HV1 hb
 have HR := xb HR hb
 have HE := xt HE hb
 clear hb
 obtain ⟨v2, hv⟩ : ∃ v, v = o4 x := ⟨_, rfl⟩
 rw [show joinL v1 2 v1 = v2 from by rw [hv, HVEv1.out]; rfl]
 have LTv2 : Hid (v2.lt 18014398509481984) := jh (by rw [hv]; exact o4_lt HX.out)
 have HVEv2 := jh hv
 clear hv
 obtain ⟨p2, hp2⟩ : ∃ p, p = w2.heap.size := ⟨_, rfl⟩
 have HV2 := jh (Blk.made w2 v2.vs 147)
 have HX1 := jh (Ext.alloc w2 (.cells v2.vs.toArray 147))
 have H1 := xb H1 HX1.out
 have HV1 := xb HV1 HX1.out
 have HR := xb HR HX1.out
 have HE := xt HE HX1.out
 rw [← hp2] at HV2
 clear HX1
 have ccx0 := H1.out.cell 0
 have ccx1 := H1.out.cell 1
 have ccx2 := H1.out.cell 2
 have ccx3 := H1.out.cell 3
 have ccx4 := H1.out.cell 4
 simp only [L5.vs, List.getElem?_cons_zero, List.getElem?_cons_succ] at ccx0 ccx1 ccx2 ccx3 ccx4
 unfold L5.v L5.vs
 go_wp2_with fail
 rw [← hp2]
 change Calls _ _ #[v2.v, .int .i64 ((1 : Nat) : Int), x.v] (w2.alloc (.cells v2.vs.toArray 147)) _
 generalize w2.alloc (.cells v2.vs.toArray 147) = y2 at *
 clear hp2 ccx0 ccx1 ccx2 ccx3 ccx4
 refine (zcu v2 1 x LTv2.out HX.out (by omega) _).mono ?_
 rintro e w3 ⟨rfl, hb⟩
 have H1 := xb H1 hb
 have HV1 := xb HV1 hb
 have HV2 := xb HV2 hb
 have HR := xb HR hb
 have HE := xt HE hb
 clear hb
 obtain ⟨v3, hv⟩ : ∃ v, v = o5 x := ⟨_, rfl⟩
 rw [show joinL v2 1 x = v3 from by rw [hv, HVEv2.out]; rfl]
 have LTv3 : Hid (v3.lt 18014398509481984) := jh (by rw [hv]; exact o5_lt HX.out)
 have HVEv3 := jh hv
 clear hv
 obtain ⟨p3, hp3⟩ : ∃ p, p = w3.heap.size := ⟨_, rfl⟩
 have HV3 := jh (Blk.made w3 v3.vs 147)
 have HX1 := jh (Ext.alloc w3 (.cells v3.vs.toArray 147))
 have H1 := xb H1 HX1.out
 have HV1 := xb HV1 HX1.out
 have HV2 := xb HV2 HX1.out
 have HR := xb HR HX1.out
 have HE := xt HE HX1.out
 rw [← hp3] at HV3
 clear HX1
 unfold L5.v L5.vs
 go_wp2_with fail
 rw [← hp3]
 change Calls _ _ #[v3.v, .int .i64 ((5 : Nat) : Int), v3.v] (w3.alloc (.cells v3.vs.toArray 147)) _
 generalize w3.alloc (.cells v3.vs.toArray 147) = y3 at *
 clear hp3
 refine (zcu v3 5 v3 LTv3.out LTv3.out (by omega) _).mono ?_
 rintro e w4 ⟨rfl, hb⟩
 have H1 := xb H1 hb
 have HV1 := xb HV1 hb
 have HV2 := xb HV2 hb
 have HV3 := xb HV3 hb
 have HR := xb HR hb
 have HE := xt HE hb
 clear hb
 obtain ⟨v4, hv⟩ : ∃ v, v = o10 x := ⟨_, rfl⟩
 rw [show joinL v3 5 v3 = v4 from by rw [hv, HVEv3.out]; rfl]
 have LTv4 : Hid (v4.lt 18014398509481984) := jh (by rw [hv]; exact o10_lt HX.out)
 have HVEv4 := jh hv
 clear hv
 obtain ⟨p4, hp4⟩ : ∃ p, p = w4.heap.size := ⟨_, rfl⟩
 have HV4 := jh (Blk.made w4 v4.vs 147)
 have HX1 := jh (Ext.alloc w4 (.cells v4.vs.toArray 147))
 have H1 := xb H1 HX1.out
 have HV1 := xb HV1 HX1.out
 have HV2 := xb HV2 HX1.out
 have HV3 := xb HV3 HX1.out
 have HR := xb HR HX1.out
 have HE := xt HE HX1.out
 rw [← hp4] at HV4
 clear HX1
 unfold L5.v L5.vs
 go_wp2_with fail
 rw [← hp4]
 change Calls _ _ #[v4.v, .int .i64 ((10 : Nat) : Int), v4.v] (w4.alloc (.cells v4.vs.toArray 147)) _
 generalize w4.alloc (.cells v4.vs.toArray 147) = y4 at *
 clear hp4
 refine (zcu v4 10 v4 LTv4.out LTv4.out (by omega) _).mono ?_
 rintro e w5 ⟨rfl, hb⟩
 have H1 := xb H1 hb
 have HV1 := xb HV1 hb
 have HV2 := xb HV2 hb
 have HV3 := xb HV3 hb
 have HV4 := xb HV4 hb
 have HR := xb HR hb
 have HE := xt HE hb
 clear hb
 obtain ⟨v5, hv⟩ : ∃ v, v = o20 x := ⟨_, rfl⟩
 rw [show joinL v4 10 v4 = v5 from by rw [hv, HVEv4.out]; rfl]
 have LTv5 : Hid (v5.lt 18014398509481984) := jh (by rw [hv]; exact o20_lt HX.out)
 have HVEv5 := jh hv
 clear hv
 obtain ⟨p5, hp5⟩ : ∃ p, p = w5.heap.size := ⟨_, rfl⟩
 have HV5 := jh (Blk.made w5 v5.vs 147)
 have HX1 := jh (Ext.alloc w5 (.cells v5.vs.toArray 147))
 have H1 := xb H1 HX1.out
 have HV1 := xb HV1 HX1.out
 have HV2 := xb HV2 HX1.out
 have HV3 := xb HV3 HX1.out
 have HV4 := xb HV4 HX1.out
 have HR := xb HR HX1.out
 have HE := xt HE HX1.out
 rw [← hp5] at HV5
 clear HX1
 unfold L5.v L5.vs
 go_wp2_with fail
 rw [← hp5]
 change Calls _ _ #[v5.v, .int .i64 ((20 : Nat) : Int), v5.v] (w5.alloc (.cells v5.vs.toArray 147)) _
 generalize w5.alloc (.cells v5.vs.toArray 147) = y5 at *
 clear hp5
 refine (zcu v5 20 v5 LTv5.out LTv5.out (by omega) _).mono ?_
 rintro e w6 ⟨rfl, hb⟩
 have H1 := xb H1 hb
 have HV1 := xb HV1 hb
 have HV2 := xb HV2 hb
 have HV3 := xb HV3 hb
 have HV4 := xb HV4 hb
 have HV5 := xb HV5 hb
 have HR := xb HR hb
 have HE := xt HE hb
 clear hb
 obtain ⟨v6, hv⟩ : ∃ v, v = o40 x := ⟨_, rfl⟩
 rw [show joinL v5 20 v5 = v6 from by rw [hv, HVEv5.out]; rfl]
 have LTv6 : Hid (v6.lt 18014398509481984) := jh (by rw [hv]; exact o40_lt HX.out)
 have HVEv6 := jh hv
 clear hv
 obtain ⟨p6, hp6⟩ : ∃ p, p = w6.heap.size := ⟨_, rfl⟩
 have HV6 := jh (Blk.made w6 v6.vs 147)
 have HX1 := jh (Ext.alloc w6 (.cells v6.vs.toArray 147))
 have H1 := xb H1 HX1.out
 have HV1 := xb HV1 HX1.out
 have HV2 := xb HV2 HX1.out
 have HV3 := xb HV3 HX1.out
 have HV4 := xb HV4 HX1.out
 have HV5 := xb HV5 HX1.out
 have HR := xb HR HX1.out
 have HE := xt HE HX1.out
 rw [← hp6] at HV6
 clear HX1
 have ccv40 := HV4.out.cell 0
 have ccv41 := HV4.out.cell 1
 have ccv42 := HV4.out.cell 2
 have ccv43 := HV4.out.cell 3
 have ccv44 := HV4.out.cell 4
 simp only [L5.vs, List.getElem?_cons_zero, List.getElem?_cons_succ] at ccv40 ccv41 ccv42 ccv43 ccv44
 unfold L5.v L5.vs
 go_wp2_with fail
 rw [← hp6]
 change Calls _ _ #[v6.v, .int .i64 ((10 : Nat) : Int), v4.v] (w6.alloc (.cells v6.vs.toArray 147)) _
 generalize w6.alloc (.cells v6.vs.toArray 147) = y6 at *
 clear hp6 ccv40 ccv41 ccv42 ccv43 ccv44
 refine (zcu v6 10 v4 LTv6.out LTv4.out (by omega) _).mono ?_
 rintro e w7 ⟨rfl, hb⟩
 have H1 := xb H1 hb
 have HV1 := xb HV1 hb
 have HV2 := xb HV2 hb
 have HV3 := xb HV3 hb
 have HV4 := xb HV4 hb
 have HV5 := xb HV5 hb
 have HV6 := xb HV6 hb
 have HR := xb HR hb
 have HE := xt HE hb
 clear hb
 obtain ⟨v7, hv⟩ : ∃ v, v = o50 x := ⟨_, rfl⟩
 rw [show joinL v6 10 v4 = v7 from by rw [hv, HVEv6.out, HVEv4.out]; rfl]
 have LTv7 : Hid (v7.lt 18014398509481984) := jh (by rw [hv]; exact o50_lt HX.out)
 have HVEv7 := jh hv
 clear hv
 obtain ⟨p7, hp7⟩ : ∃ p, p = w7.heap.size := ⟨_, rfl⟩
 have HV7 := jh (Blk.made w7 v7.vs 147)
 have HX1 := jh (Ext.alloc w7 (.cells v7.vs.toArray 147))
 have H1 := xb H1 HX1.out
 have HV1 := xb HV1 HX1.out
 have HV2 := xb HV2 HX1.out
 have HV3 := xb HV3 HX1.out
 have HV4 := xb HV4 HX1.out
 have HV5 := xb HV5 HX1.out
 have HV6 := xb HV6 HX1.out
 have HR := xb HR HX1.out
 have HE := xt HE HX1.out
 rw [← hp7] at HV7
 clear HX1
 unfold L5.v L5.vs
 go_wp2_with fail
 rw [← hp7]
 change Calls _ _ #[v7.v, .int .i64 ((50 : Nat) : Int), v7.v] (w7.alloc (.cells v7.vs.toArray 147)) _
 generalize w7.alloc (.cells v7.vs.toArray 147) = y7 at *
 clear hp7
 refine (zcu v7 50 v7 LTv7.out LTv7.out (by omega) _).mono ?_
 rintro e w8 ⟨rfl, hb⟩
 have H1 := xb H1 hb
 have HV1 := xb HV1 hb
 have HV2 := xb HV2 hb
 have HV3 := xb HV3 hb
 have HV4 := xb HV4 hb
 have HV5 := xb HV5 hb
 have HV6 := xb HV6 hb
 have HV7 := xb HV7 hb
 have HR := xb HR hb
 have HE := xt HE hb
 clear hb
 obtain ⟨v8, hv⟩ : ∃ v, v = o100 x := ⟨_, rfl⟩
 rw [show joinL v7 50 v7 = v8 from by rw [hv, HVEv7.out]; rfl]
 have LTv8 : Hid (v8.lt 18014398509481984) := jh (by rw [hv]; exact o100_lt HX.out)
 have HVEv8 := jh hv
 clear hv
 obtain ⟨p8, hp8⟩ : ∃ p, p = w8.heap.size := ⟨_, rfl⟩
 have HV8 := jh (Blk.made w8 v8.vs 147)
 have HX1 := jh (Ext.alloc w8 (.cells v8.vs.toArray 147))
 have H1 := xb H1 HX1.out
 have HV1 := xb HV1 HX1.out
 have HV2 := xb HV2 HX1.out
 have HV3 := xb HV3 HX1.out
 have HV4 := xb HV4 HX1.out
 have HV5 := xb HV5 HX1.out
 have HV6 := xb HV6 HX1.out
 have HV7 := xb HV7 HX1.out
 have HR := xb HR HX1.out
 have HE := xt HE HX1.out
 rw [← hp8] at HV8
 clear HX1
 unfold L5.v L5.vs
 go_wp2_with fail
 rw [← hp8]
 change Calls _ _ #[v8.v, .int .i64 ((100 : Nat) : Int), v8.v] (w8.alloc (.cells v8.vs.toArray 147)) _
 generalize w8.alloc (.cells v8.vs.toArray 147) = y8 at *
 clear hp8
 refine (zcu v8 100 v8 LTv8.out LTv8.out (by omega) _).mono ?_
 rintro e w9 ⟨rfl, hb⟩
 have H1 := xb H1 hb
 have HV1 := xb HV1 hb
 have HV2 := xb HV2 hb
 have HV3 := xb HV3 hb
 have HV4 := xb HV4 hb
 have HV5 := xb HV5 hb
 have HV6 := xb HV6 hb
 have HV7 := xb HV7 hb
 have HV8 := xb HV8 hb
 have HR := xb HR hb
 have HE := xt HE hb
 clear hb
 obtain ⟨v9, hv⟩ : ∃ v, v = o200 x := ⟨_, rfl⟩
 rw [show joinL v8 100 v8 = v9 from by rw [hv, HVEv8.out]; rfl]
 have LTv9 : Hid (v9.lt 18014398509481984) := jh (by rw [hv]; exact o200_lt HX.out)
 have HVEv9 := jh hv
 clear hv
 obtain ⟨p9, hp9⟩ : ∃ p, p = w9.heap.size := ⟨_, rfl⟩
 have HV9 := jh (Blk.made w9 v9.vs 147)
 have HX1 := jh (Ext.alloc w9 (.cells v9.vs.toArray 147))
 have H1 := xb H1 HX1.out
 have HV1 := xb HV1 HX1.out
 have HV2 := xb HV2 HX1.out
 have HV3 := xb HV3 HX1.out
 have HV4 := xb HV4 HX1.out
 have HV5 := xb HV5 HX1.out
 have HV6 := xb HV6 HX1.out
 have HV7 := xb HV7 HX1.out
 have HV8 := xb HV8 HX1.out
 have HR := xb HR HX1.out
 have HE := xt HE HX1.out
 rw [← hp9] at HV9
 clear HX1
 have ccv70 := HV7.out.cell 0
 have ccv71 := HV7.out.cell 1
 have ccv72 := HV7.out.cell 2
 have ccv73 := HV7.out.cell 3
 have ccv74 := HV7.out.cell 4
 simp only [L5.vs, List.getElem?_cons_zero, List.getElem?_cons_succ] at ccv70 ccv71 ccv72 ccv73 ccv74
 unfold L5.v L5.vs
 go_wp2_with fail
 rw [← hp9]
 change Calls _ _ #[v9.v, .int .i64 ((50 : Nat) : Int), v7.v] (w9.alloc (.cells v9.vs.toArray 147)) _
 generalize w9.alloc (.cells v9.vs.toArray 147) = y9 at *
 clear hp9 ccv70 ccv71 ccv72 ccv73 ccv74
 refine (zcu v9 50 v7 LTv9.out LTv7.out (by omega) _).mono ?_
 rintro e w10 ⟨rfl, hb⟩
 have H1 := xb H1 hb
 have HV1 := xb HV1 hb
 have HV2 := xb HV2 hb
 have HV3 := xb HV3 hb
 have HV4 := xb HV4 hb
 have HV5 := xb HV5 hb
 have HV6 := xb HV6 hb
 have HV7 := xb HV7 hb
 have HV8 := xb HV8 hb
 have HV9 := xb HV9 hb
 have HR := xb HR hb
 have HE := xt HE hb
 clear hb
 obtain ⟨v10, hv⟩ : ∃ v, v = onesL x := ⟨_, rfl⟩
 rw [show joinL v9 50 v7 = v10 from by rw [hv, HVEv9.out, HVEv7.out]; rfl]
 have LTv10 : Hid (v10.lt 18014398509481984) := jh (by rw [hv]; exact onesL_lt HX.out)
 have HVEv10 := jh hv
 clear hv
 go_wp2_with (refine ssb (A + 1) v10.vs HR.out rfl Tryz.arr147 (L5.vs_one _) ?_; intro w11 hb2 hg2)
 exact bodyPost_ret (v := v10.v) (zap (by rfl) _ (A + 1) _ _ _ (by rfl) hb2 q104 rfl Tryz.arr147) rfl ⟨by rw [HVEv10.out]; rfl, zab HE.out hg2 (by omega)⟩
def w8 (a b c d e f g h : Nat) : Nat := a + 256 * b + 65536 * c + 16777216 * d + 4294967296 * e + 1099511627776 * f + 281474976710656 * g + 72057594037927936 * h
theorem word_math (a b c d e f g h : Nat) (ha : a < 256) (hb : b < 256) (hc : c < 256) (hd : d < 256) (he : e < 256) (hf : f < 256) (hg : g < 256) (hh : h < 256) :
  bits .or .u64 (bits .or .u64 (bits .or .u64 (bits .or .u64 (bits .or .u64 (bits .or .u64 (bits .or .u64 (a : Int) (IntKind.u64.wrap ((b : Int) * 256))) (IntKind.u64.wrap ((c : Int) * 65536))) (IntKind.u64.wrap ((d : Int) * 16777216))) (IntKind.u64.wrap ((e : Int) * 4294967296))) (IntKind.u64.wrap ((f : Int) * 1099511627776))) (IntKind.u64.wrap ((g : Int) * 281474976710656))) (IntKind.u64.wrap ((h : Int) * 72057594037927936)) = ((w8 a b c d e f g h : Nat) : Int) := by
 have sh : ∀ (k x y : Nat), x < 2 ^ k → 2 ^ k * y + x < 18446744073709551616 → bits .or .u64 (x : Int) (((2 ^ k * y : Nat)) : Int) = ((2 ^ k * y + x : Nat) : Int) := fun k x y hx hs => by
  rw [or64 _ _ (by omega) (by omega), Nat.or_comm, or_sum k x y hx]
 have cv : ∀ (y m : Nat), y * m < 18446744073709551616 → IntKind.u64.wrap ((y : Int) * (m : Int)) = ((m * y : Nat) : Int) := fun y m h => by
  rw [natMul, w64 h, q129]
 have q1 := cv b 256 (by omega)
 have q2 := cv c 65536 (by omega)
 have q3 := cv d 16777216 (by omega)
 have q4 := cv e 4294967296 (by omega)
 have q5 := cv f 1099511627776 (by omega)
 have q6 := cv g 281474976710656 (by omega)
 have q7 := cv h 72057594037927936 (by omega)
 simp only [Int.cast_ofNat_Int] at q1 q2 q3 q4 q5 q6 q7
 rw [q1, q2, q3, q4, q5, q6, q7]
 rw [sh 8 a b (by omega) (by omega), sh 16 (2 ^ 8 * b + a) c (by omega) (by omega), sh 24 (2 ^ 16 * c + (2 ^ 8 * b + a)) d (by omega) (by omega), sh 32 (2 ^ 24 * d + (2 ^ 16 * c + (2 ^ 8 * b + a))) e (by omega) (by omega),
  sh 40 (2 ^ 32 * e + (2 ^ 24 * d + (2 ^ 16 * c + (2 ^ 8 * b + a)))) f (by omega) (by omega), sh 48 (2 ^ 40 * f + (2 ^ 32 * e + (2 ^ 24 * d + (2 ^ 16 * c + (2 ^ 8 * b + a))))) g (by omega) (by omega), sh 56 (2 ^ 48 * g + (2 ^ 40 * f + (2 ^ 32 * e + (2 ^ 24 * d + (2 ^ 16 * c + (2 ^ 8 * b + a)))))) h (by omega) (by omega)]
 unfold w8
 omega
theorem word_any (p off cap : Nat) (a b c d e f g h : Nat) (ha : a < 256) (hb : b < 256) (hc : c < 256) (hd : d < 256) (he : e < 256) (hf : f < 256) (hg : g < 256) (hh : h < 256) (w : World)
  (c0 : w.cell? ⟨p, off, none⟩ = some (.int .u8 a)) (c1 : w.cell? ⟨p, off + 1, none⟩ = some (.int .u8 b)) (c2 : w.cell? ⟨p, off + 2, none⟩ = some (.int .u8 c)) (c3 : w.cell? ⟨p, off + 3, none⟩ = some (.int .u8 d))
  (c4 : w.cell? ⟨p, off + 4, none⟩ = some (.int .u8 e)) (c5 : w.cell? ⟨p, off + 5, none⟩ = some (.int .u8 f)) (c6 : w.cell? ⟨p, off + 6, none⟩ = some (.int .u8 g)) (c7 : w.cell? ⟨p, off + 7, none⟩ = some (.int .u8 h)) :
  Calls Tryz.prog 133 #[.slice (some ⟨p, off, none⟩) 8 cap] w fun e' w' => e' = .returned (.int .u64 ((w8 a b c d e f g h : Nat) : Int)) ∧ Below w.heap.size w w' := by
 have HM := jh (word_math a b c d e f g h ha hb hc hd he hf hg hh)
 have m1 : IntKind.u64.wrap (a : Int) = a := w64 (by omega)
 have m2 : IntKind.u64.wrap (b : Int) = b := w64 (by omega)
 have m3 : IntKind.u64.wrap (c : Int) = c := w64 (by omega)
 have m4 : IntKind.u64.wrap (d : Int) = d := w64 (by omega)
 have m5 : IntKind.u64.wrap (e : Int) = e := w64 (by omega)
 have m6 : IntKind.u64.wrap (f : Int) = f := w64 (by omega)
 have m7 : IntKind.u64.wrap (g : Int) = g := w64 (by omega)
 have m8 : IntKind.u64.wrap (h : Int) = h := w64 (by omega)
 clear ha hb hc hd he hf hg hh
 go_enter Tryz.func133, Tryz.ntmps133
 go_wp2_with fail
 go_quiet (fail)
 go_wp2_with fail
 go_ret
 refine ⟨?_, below_drewN (Below.refl _ _) _⟩
 rw [← HM.out]
 rfl
def b8 (n : Nat) : List Value := [.int .u8 ((n : Int) % 256), .int .u8 ((n : Int) / 256 % 256), .int .u8 ((n : Int) / 65536 % 256), .int .u8 ((n : Int) / 16777216 % 256), .int .u8 ((n : Int) / 4294967296 % 256), .int .u8 ((n : Int) / 1099511627776 % 256), .int .u8 ((n : Int) / 281474976710656 % 256), .int .u8 ((n : Int) / 72057594037927936 % 256)]
theorem putWord_any (p off cap n : Nat) (cs : List Value) (tb : TypeId) (w : World) (hb : Blk w p cs tb) (hl : off + 8 ≤ cs.length) :
  Calls Tryz.prog 132 #[.slice (some ⟨p, off, none⟩) 8 cap, .int .u64 (n : Int)] w fun e' w' => e' = .returned (.tuple #[]) ∧ Blk w' p (laid cs off (b8 n)) tb ∧ w.grownBy w' (some p) := by
 have HB := jh hb
 have cell : ∀ i, off + i < cs.length → ∃ v, w.cell? ⟨p, off + i, none⟩ = some v := fun i hi => ⟨_, (hb.cell _).trans (List.getElem?_eq_getElem hi)⟩
 obtain ⟨v0, c0⟩ := cell 0 (by omega)
 obtain ⟨v1, c1⟩ := cell 1 (by omega)
 obtain ⟨v2, c2⟩ := cell 2 (by omega)
 obtain ⟨v3, c3⟩ := cell 3 (by omega)
 obtain ⟨v4, c4⟩ := cell 4 (by omega)
 obtain ⟨v5, c5⟩ := cell 5 (by omega)
 obtain ⟨v6, c6⟩ := cell 6 (by omega)
 obtain ⟨v7, c7⟩ := cell 7 (by omega)
 have f0 := hb.free off
 have f1 := hb.free (off + 1)
 have f2 := hb.free (off + 2)
 have f3 := hb.free (off + 3)
 have f4 := hb.free (off + 4)
 have f5 := hb.free (off + 5)
 have f6 := hb.free (off + 6)
 have f7 := hb.free (off + 7)
 rw [Nat.add_zero] at c0
 clear hb hl cell
 go_enter Tryz.func132, Tryz.ntmps132
 go_wp2_with fail
 have h1 := Blk.setCells (b8 n) cs off w HB.out
 have h2 := zcv (b8 n) off w w (c := p) (zce w _)
 exact bodyPost_end (v := .tuple #[]) (results_none (by rfl) _ _ _) rfl ⟨rfl, h1, h2⟩
def wAt (l : List UInt8) (o : Nat) : Nat := w8 (l.getD o 0).toNat (l.getD (o + 1) 0).toNat (l.getD (o + 2) 0).toNat (l.getD (o + 3) 0).toNat (l.getD (o + 4) 0).toNat (l.getD (o + 5) 0).toNat (l.getD (o + 6) 0).toNat (l.getD (o + 7) 0).toNat
theorem wAt_lt (l : List UInt8) (o : Nat) : wAt l o < 18446744073709551616 := by
 unfold wAt w8
 have h0 := (l.getD o 0).toNat_lt
 have h1 := (l.getD (o + 1) 0).toNat_lt
 have h2 := (l.getD (o + 2) 0).toNat_lt
 have h3 := (l.getD (o + 3) 0).toNat_lt
 have h4 := (l.getD (o + 4) 0).toNat_lt
 have h5 := (l.getD (o + 5) 0).toNat_lt
 have h6 := (l.getD (o + 6) 0).toNat_lt
 have h7 := (l.getD (o + 7) 0).toNat_lt
 omega
theorem word_blk (p off cap : Nat) (l : List UInt8) (tb : TypeId) (w : World) (hb : Blk w p (l.map bval) tb) (hl : l.length = 32) (ho : off + 8 ≤ 32) :
  Calls Tryz.prog 133 #[.slice (some ⟨p, off, none⟩) 8 cap] w fun e' w' => e' = .returned (.int .u64 ((wAt l off : Nat) : Int)) ∧ Below w.heap.size w w' := by
 have c : ∀ i, i < 8 → w.cell? ⟨p, off + i, none⟩ = some (.int .u8 ((l.getD (off + i) 0).toNat : Int)) := fun i hi => (hb.cell _).trans (zbg (by omega))
 exact word_any p off cap _ _ _ _ _ _ _ _ (UInt8.toNat_lt _) (UInt8.toNat_lt _) (UInt8.toNat_lt _) (UInt8.toNat_lt _) (UInt8.toNat_lt _) (UInt8.toNat_lt _) (UInt8.toNat_lt _) (UInt8.toNat_lt _) w (c 0 (by omega)) (c 1 (by omega)) (c 2 (by omega)) (c 3 (by omega)) (c 4 (by omega)) (c 5 (by omega)) (c 6 (by omega)) (c 7 (by omega))
def limbsW (a b c d : Nat) : L5 := ⟨a % 2251799813685248 + 19 * (d / 9223372036854775808), (8192 * (b % 2251799813685248) + a / 2251799813685248) % 2251799813685248, (67108864 * (c % 274877906944) + b / 274877906944) % 2251799813685248, (549755813888 * (d % 33554432) + c / 33554432) % 2251799813685248, d / 4096 % 2251799813685248⟩
theorem limbsW_lt {a b c d : Nat} (hd : d < 18446744073709551616) : (limbsW a b c d).lt 18014398509481984 := by
 refine ⟨?_, ?_, ?_, ?_, ?_⟩ <;> simp only [limbsW] <;> omega
theorem limbsW_val {a b c d : Nat} (ha : a < 18446744073709551616) (hb : b < 18446744073709551616) (hc : c < 18446744073709551616) (hd : d < 18446744073709551616) :
  (limbsW a b c d).val + 57896044618658097711785492504343953926634992332820282019728792003956564819949 * (d / 9223372036854775808) = a + 18446744073709551616 * b + 340282366920938463463374607431768211456 * c + 6277101735386680763835789423207666416102355444464034512896 * d := by
 have e1 : (8192 * (b % 2251799813685248) + a / 2251799813685248) % 2251799813685248 = 8192 * (b % 274877906944) + a / 2251799813685248 := by omega
 have e2 : (67108864 * (c % 274877906944) + b / 274877906944) % 2251799813685248 = 67108864 * (c % 33554432) + b / 274877906944 := by omega
 have e3 : (549755813888 * (d % 33554432) + c / 33554432) % 2251799813685248 = 549755813888 * (d % 4096) + c / 33554432 := by omega
 have e4 : d / 4096 % 2251799813685248 + 2251799813685248 * (d / 9223372036854775808) = d / 4096 := by omega
 simp only [limbsW, L5.val]
 rw [e1, e2, e3]
 omega
def limbsL (l : List UInt8) : L5 := limbsW (wAt l 0) (wAt l 8) (wAt l 16) (wAt l 24)
theorem limbsL_lt (l : List UInt8) : (limbsL l).lt 18014398509481984 := limbsW_lt (wAt_lt l 24)
theorem leN8 (a b c d e f g h : UInt8) (r : List UInt8) : leN (a :: b :: c :: d :: e :: f :: g :: h :: r) = w8 a.toNat b.toNat c.toNat d.toNat e.toNat f.toNat g.toNat h.toNat + 18446744073709551616 * leN r := by
 simp only [leN, w8]
 omega
theorem leN_words (l : List UInt8) (hl : l.length = 32) : leN l = wAt l 0 + 18446744073709551616 * wAt l 8 + 340282366920938463463374607431768211456 * wAt l 16 + 6277101735386680763835789423207666416102355444464034512896 * wAt l 24 := by
 have e : leN l = leN [l.getD 0 0, l.getD 1 0, l.getD 2 0, l.getD 3 0, l.getD 4 0, l.getD 5 0, l.getD 6 0, l.getD 7 0, l.getD 8 0, l.getD 9 0, l.getD 10 0, l.getD 11 0, l.getD 12 0, l.getD 13 0, l.getD 14 0, l.getD 15 0, l.getD 16 0, l.getD 17 0, l.getD 18 0, l.getD 19 0, l.getD 20 0, l.getD 21 0, l.getD 22 0, l.getD 23 0, l.getD 24 0, l.getD 25 0, l.getD 26 0, l.getD 27 0, l.getD 28 0, l.getD 29 0, l.getD 30 0, l.getD 31 0] := by rw [← bytes32 l hl]
 rw [e, leN8, leN8, leN8, leN8]
 have e0 : leN [] = 0 := rfl
 rw [e0]
 show wAt l 0 + 18446744073709551616 * (wAt l 8 + 18446744073709551616 * (wAt l 16 + 18446744073709551616 * (wAt l 24 + 18446744073709551616 * 0))) = _
 generalize wAt l 0 = x0
 generalize wAt l 8 = x1
 generalize wAt l 16 = x2
 generalize wAt l 24 = x3
 omega
theorem zdz (l : List UInt8) (hl : l.length = 32) : Cong ((limbsL l).val : Nat) (leN l : Nat) := by
 have h := limbsW_val (wAt_lt l 0) (wAt_lt l 8) (wAt_lt l 16) (wAt_lt l 24)
 rw [leN_words l hl, ← h]
 refine ⟨-((wAt l 24 / 9223372036854775808 : Nat) : Int), ?_⟩
 have hp : pP = 57896044618658097711785492504343953926634992332820282019728792003956564819949 := rfl
 rw [hp]
 unfold limbsL
 generalize (limbsW (wAt l 0) (wAt l 8) (wAt l 16) (wAt l 24)).val = v
 generalize wAt l 24 / 9223372036854775808 = q
 omega
theorem lw0 (a d : Nat) (ha : a < 18446744073709551616) (hd : d < 18446744073709551616) : IntKind.u64.wrap (bits .and .u64 (a : Int) 2251799813685247 + IntKind.u64.wrap (19 * ((d : Int) / 9223372036854775808))) = ((a % 2251799813685248 + 19 * (d / 9223372036854775808) : Nat) : Int) := by
 rw [mask51 a ha, IntKind.wrap_u64, IntKind.wrap_u64]
 omega
theorem lwm (a b k m r s : Nat) (i : Nat) (ha : a < 18446744073709551616) (hb : b < 18446744073709551616) (hr : r = 2 ^ i) (hx : a / k < r) (hs : r * s = 18446744073709551616) :
  bits .and .u64 (bits .or .u64 ((a / k : Nat) : Int) (IntKind.u64.wrap ((b : Int) * (r : Int)))) 2251799813685247 = (((r * (b % s) + a / k) % 2251799813685248 : Nat) : Int) := by
 have e1 : IntKind.u64.wrap ((b : Int) * (r : Int)) = ((r * (b % s) : Nat) : Int) := by
  rw [natMul, w64m, ← hs, q129 b r, Nat.mul_mod_mul_left]
 have hb2 : b % s < s := q140 _ (by rcases q150 s with h | h; (subst h; simp at hs); exact h)
 have hb3 : r * (b % s) + r ≤ 18446744073709551616 := by
  rw [← hs, ← Nat.mul_succ]
  exact Nat.mul_le_mul_left _ hb2
 have h0 : a / k ≤ a := Nat.div_le_self _ _
 have h00 : 0 < r := Nat.lt_of_le_of_lt (q149 _) hx
 rw [e1, or64 _ _ (by omega) (by omega), Nat.or_comm]
 rw [hr] at hx hb3 ⊢
 rw [or_sum i _ _ hx, mask51 _ (by omega)]
theorem lw4 (d : Nat) (hd : d < 18446744073709551616) : bits .and .u64 ((d : Int) / 4096) 2251799813685247 = ((d / 4096 % 2251799813685248 : Nat) : Int) := by
 have : (d : Int) / 4096 = ((d / 4096 : Nat) : Int) := by omega
 rw [this, mask51 _ (by omega)]
theorem zdl (l : List UInt8) (hl : l.length = 32) (w : World) :
  Calls Tryz.prog 112 #[.agg (l.map bval).toArray] w fun e w' => e = .returned (limbsL l).v ∧ Below w.heap.size w w' := by
 have HL := jh hl
 have HB := jh (boxes2 w (l.map bval) zero5 23 147)
 clear hl
 go_enter Tryz.func112, Tryz.ntmps112
 go_wp2_with fail
 change Code.wp _ _ _ _ ((w.alloc (.cells (l.map bval).toArray 23)).alloc (.cells zero5.toArray 147))
 generalize (w.alloc (.cells (l.map bval).toArray 23)).alloc (.cells zero5.toArray 147) = w0 at *
 obtain ⟨h1, h2, h4⟩ := HB.out
 obtain ⟨A, hA⟩ : ∃ A, A = w.heap.size := ⟨_, rfl⟩
 rw [← hA] at h1 h2 ⊢
 have hA2 : w.heap.size ≤ A := by omega
 have H1 := jh h1
 have H2 := jh h2
 have HE : Hid (Ext w w0) := jh h4
 clear h1 h2 h4 HB hA
 refine swf 12 0 12 ?_
 refine zaw (.slice (some ⟨A, 0, none⟩) 8 32) (by rfl) (fun w hw => by go_simp) ?_
 simp only [nm]
 refine sdc [.slice (some ⟨A, 0, none⟩) 8 32] (.int .u64 ((wAt l 0 : Nat) : Int)) Tryz.call133 (fun w hw => word_blk A 0 32 l 23 w (zad H1.out hw) HL.out (by omega)) ?_
 simp only [nm]
 refine zaw (.slice (some ⟨A, 8, none⟩) 8 24) (by rfl) (fun w hw => by go_simp) ?_
 simp only [nm]
 refine sdc [.slice (some ⟨A, 8, none⟩) 8 24] (.int .u64 ((wAt l 8 : Nat) : Int)) Tryz.call133 (fun w hw => word_blk A 8 24 l 23 w (zad H1.out hw) HL.out (by omega)) ?_
 simp only [nm]
 refine zaw (.slice (some ⟨A, 16, none⟩) 8 16) (by rfl) (fun w hw => by go_simp) ?_
 simp only [nm]
 refine sdc [.slice (some ⟨A, 16, none⟩) 8 16] (.int .u64 ((wAt l 16 : Nat) : Int)) Tryz.call133 (fun w hw => word_blk A 16 16 l 23 w (zad H1.out hw) HL.out (by omega)) ?_
 simp only [nm]
 refine zaw (.slice (some ⟨A, 24, none⟩) 8 8) (by rfl) (fun w hw => by go_simp) ?_
 simp only [nm]
 refine sdc [.slice (some ⟨A, 24, none⟩) 8 8] (.int .u64 ((wAt l 24 : Nat) : Int)) Tryz.call133 (fun w hw => word_blk A 24 8 l 23 w (zad H1.out hw) HL.out (by omega)) ?_
 simp only [nm]
 refine zbi _ (.int .u64 ((wAt l 0 : Nat) : Int)) (by rfl) rfl rfl ?_
 simp only [nm]
 refine zbi _ (.int .u64 ((wAt l 8 : Nat) : Int)) (by rfl) rfl rfl ?_
 simp only [nm]
 refine zbi _ (.int .u64 ((wAt l 16 : Nat) : Int)) (by rfl) rfl rfl ?_
 simp only [nm]
 refine zbi _ (.int .u64 ((wAt l 24 : Nat) : Int)) (by rfl) rfl rfl ?_
 simp only [nm]
 refine zao (end_none (by kernel_rfl) (fun w1 hw1 => ?_))
 have H2 := xb H2 hw1
 have HE := xt HE hw1
 have g0 := wAt_lt l 0
 have g1 := wAt_lt l 8
 have g2 := wAt_lt l 16
 have g3 := wAt_lt l 24
 have HL5 : Hid (limbsL l = limbsW (wAt l 0) (wAt l 8) (wAt l 16) (wAt l 24)) := jh rfl
 clear hw1 H1
 generalize wAt l 0 = x0 at *
 generalize wAt l 8 = x1 at *
 generalize wAt l 16 = x2 at *
 generalize wAt l 24 = x3 at *
 have R0 := jh (lw0 x0 x3 g0 g3)
 have R1 : Hid (bits .and .u64 (bits .or .u64 ((x0 : Int) / 2251799813685248) (IntKind.u64.wrap ((x1 : Int) * 8192))) 2251799813685247 = (((8192 * (x1 % 2251799813685248) + x0 / 2251799813685248) % 2251799813685248 : Nat) : Int)) := jh (lwm x0 x1 2251799813685248 0 8192 2251799813685248 13 g0 g1 rfl (by omega) rfl)
 have R2 : Hid (bits .and .u64 (bits .or .u64 ((x1 : Int) / 274877906944) (IntKind.u64.wrap ((x2 : Int) * 67108864))) 2251799813685247 = (((67108864 * (x2 % 274877906944) + x1 / 274877906944) % 2251799813685248 : Nat) : Int)) := jh (lwm x1 x2 274877906944 0 67108864 274877906944 26 g1 g2 rfl (by omega) rfl)
 have R3 : Hid (bits .and .u64 (bits .or .u64 ((x2 : Int) / 33554432) (IntKind.u64.wrap ((x3 : Int) * 549755813888))) 2251799813685247 = (((549755813888 * (x3 % 33554432) + x2 / 33554432) % 2251799813685248 : Nat) : Int)) := jh (lwm x2 x3 33554432 0 549755813888 33554432 39 g2 g3 rfl (by omega) rfl)
 have R4 := jh (lw4 x3 g3)
 clear g0 g1 g2 g3
 go_wp2_with (refine zbe rfl _ _ _ rfl (A + 1) [.int .u64 _, .int .u64 _, .int .u64 _, .int .u64 _, .int .u64 _] rfl rfl _ _ H2.out rfl Tryz.arr147 (one5 _ _ _ _ _) ?_; intro w5 hb5 hg5)
 rw [R0.out, R1.out, R2.out, R3.out, R4.out] at hb5
 exact bodyPost_ret (v := (limbsW x0 x1 x2 x3).v) (zap (by rfl) _ (A + 1) _ _ _ (by rfl) hb5 q104 rfl Tryz.arr147) rfl ⟨by rw [HL5.out], zab HE.out hg5 (by omega)⟩
theorem out_steps {x0 x1 x2 x3 x4 r1 r2 r3 r4 r5 c1 c2 c3 c4 c5 y0 y1 y2 y3 y4 : Nat} (b0 : x0 < 2251799813947392) (b1 : x1 < 2251799813947392) (b2 : x2 < 2251799813947392) (b3 : x3 < 2251799813947392) (b4 : x4 < 2251799813947392)
  (h1 : r1 = (19 + x0) / 2251799813685248) (h2 : r2 = (r1 + x1) / 2251799813685248) (h3 : r3 = (r2 + x2) / 2251799813685248) (h4 : r4 = (r3 + x3) / 2251799813685248) (h5 : r5 = (r4 + x4) / 2251799813685248)
  (g1 : c1 = (19 * r5 + x0) / 2251799813685248) (g2 : c2 = (c1 + x1) / 2251799813685248) (g3 : c3 = (c2 + x2) / 2251799813685248) (g4 : c4 = (c3 + x3) / 2251799813685248) (g5 : c5 = (c4 + x4) / 2251799813685248)
  (f0 : y0 = (19 * r5 + x0) % 2251799813685248) (f1 : y1 = (c1 + x1) % 2251799813685248) (f2 : y2 = (c2 + x2) % 2251799813685248) (f3 : y3 = (c3 + x3) % 2251799813685248) (f4 : y4 = (c4 + x4) % 2251799813685248) :
  (L5.mk y0 y1 y2 y3 y4).val = (L5.mk x0 x1 x2 x3 x4).val % 57896044618658097711785492504343953926634992332820282019728792003956564819949 := by
 have e1 : (L5.mk y0 y1 y2 y3 y4).val + 57896044618658097711785492504343953926634992332820282019728792003956564819968 * c5 = 19 * r5 + (L5.mk x0 x1 x2 x3 x4).val := by
  simp only [L5.val]
  omega
 have e2 : (L5.mk y0 y1 y2 y3 y4).val < 57896044618658097711785492504343953926634992332820282019728792003956564819968 := by
  simp only [L5.val]
  omega
 have e3 : 57896044618658097711785492504343953926634992332820282019728792003956564819968 * r5 ≤ 19 + (L5.mk x0 x1 x2 x3 x4).val ∧ 19 + (L5.mk x0 x1 x2 x3 x4).val < 57896044618658097711785492504343953926634992332820282019728792003956564819968 * r5 + 57896044618658097711785492504343953926634992332820282019728792003956564819968 := by
  simp only [L5.val]
  omega
 have e4 : (L5.mk x0 x1 x2 x3 x4).val < 115792089237316195423570985008687907853269984665640564039457584007913129639898 := by
  simp only [L5.val]
  omega
 clear h1 h2 h3 h4 h5 g1 g2 g3 g4 g5 f0 f1 f2 f3 f4 b0 b1 b2 b3 b4
 generalize (L5.mk y0 y1 y2 y3 y4).val = Y at *
 generalize (L5.mk x0 x1 x2 x3 x4).val = X at *
 have e5 : r5 = 0 ∨ r5 = 1 := by omega
 rcases e5 with rfl | rfl <;> omega
theorem b8_bytes (n : Nat) : b8 n = (bytesN 8 n).map bval := by
 have h : ∀ m : Nat, bval (UInt8.ofNat (m % 256)) = .int .u8 ((m % 256 : Nat) : Int) := fun m => by
  unfold bval
  rw [UInt8.toNat_ofNat']
  congr 2
  omega
 have q : ∀ (m : Nat) (z : Int), ((m % 256 : Nat) : Int) = z → bval (UInt8.ofNat (m % 256)) = .int .u8 z := fun m z e => by rw [h, e]
 simp only [b8, bytesN, q153, List.map_nil]
 rw [q n _ rfl, q (n / 256) ((n : Int) / 256 % 256) (by omega), q (n / 256 / 256) ((n : Int) / 65536 % 256) (by omega), q (n / 256 / 256 / 256) ((n : Int) / 16777216 % 256) (by omega), q (n / 256 / 256 / 256 / 256) ((n : Int) / 4294967296 % 256) (by omega),
  q (n / 256 / 256 / 256 / 256 / 256) ((n : Int) / 1099511627776 % 256) (by omega), q (n / 256 / 256 / 256 / 256 / 256 / 256) ((n : Int) / 281474976710656 % 256) (by omega), q (n / 256 / 256 / 256 / 256 / 256 / 256 / 256) ((n : Int) / 72057594037927936 % 256) (by omega)]
 rfl
theorem bytes_words (y v0 v1 v2 v3 : Nat) (h0 : v0 = y % 18446744073709551616) (h1 : v1 = y / 18446744073709551616 % 18446744073709551616) (h2 : v2 = y / 340282366920938463463374607431768211456 % 18446744073709551616) (h3 : v3 = y / 6277101735386680763835789423207666416102355444464034512896 % 18446744073709551616) :
  b8 v0 ++ b8 v1 ++ b8 v2 ++ b8 v3 = (bytesN 32 y).map bval := by
 have k : (256 : Nat) ^ 8 = 18446744073709551616 := by decide
 have s0 := zfn 8 24 y
 have s1 := zfn 8 16 (y / 256 ^ 8)
 have s2 := zfn 8 8 (y / 256 ^ 8 / 256 ^ 8)
 rw [k] at s0 s1 s2
 have m : ∀ z, bytesN 8 (z % 18446744073709551616) = bytesN 8 z := fun z => by rw [← k]; exact bytesN_mod 8 z
 rw [b8_bytes, b8_bytes, b8_bytes, b8_bytes, h0, h1, h2, h3, m, m, m, m]
 have d1 : y / 18446744073709551616 / 18446744073709551616 = y / 340282366920938463463374607431768211456 := by omega
 have d2 : y / 340282366920938463463374607431768211456 / 18446744073709551616 = y / 6277101735386680763835789423207666416102355444464034512896 := by omega
 rw [d1] at s1 s2
 rw [d2] at s2
 have e : bytesN 32 y = bytesN 8 y ++ (bytesN 8 (y / 18446744073709551616) ++ (bytesN 8 (y / 340282366920938463463374607431768211456) ++ bytesN 8 (y / 6277101735386680763835789423207666416102355444464034512896))) := by
  rw [← s2, ← s1, ← s0]
 rw [e]
 simp
theorem words_of {y0 y1 y2 y3 y4 : Nat} (h0 : y0 < 2251799813685248) (h1 : y1 < 2251799813685248) (h2 : y2 < 2251799813685248) (h3 : y3 < 2251799813685248) (h4 : y4 < 2251799813685248) :
  b8 (2251799813685248 * (y1 % 8192) + y0) ++ b8 (274877906944 * (y2 % 67108864) + y1 / 8192) ++ b8 (33554432 * (y3 % 549755813888) + y2 / 67108864) ++ b8 (4096 * (y4 % 4503599627370496) + y3 / 549755813888) = (bytesN 32 (L5.mk y0 y1 y2 y3 y4).val).map bval := by
 apply bytes_words
 ·simp only [L5.val]; omega
 ·simp only [L5.val]; omega
 ·simp only [L5.val]; omega
 ·simp only [L5.val]; omega
theorem lay_or (a b r s : Nat) (i : Nat) (hr : r = 2 ^ i) (ha : a < r) (hb : b < 18446744073709551616) (hs : r * s = 18446744073709551616) :
  ∃ q : Nat, IntKind.u64.wrap ((b : Int) * (r : Int)) = (q : Int) ∧ bits .or .u64 (a : Int) (q : Int) = ((r * (b % s) + a : Nat) : Int) := by
 have e1 : IntKind.u64.wrap ((b : Int) * (r : Int)) = ((r * (b % s) : Nat) : Int) := by
  rw [natMul, w64m, ← hs, q129 b r, Nat.mul_mod_mul_left]
 have hb2 : b % s < s := q140 _ (by rcases q150 s with h | h; (subst h; simp at hs); exact h)
 have hb3 : r * (b % s) + r ≤ 18446744073709551616 := by
  rw [← hs, ← Nat.mul_succ]
  exact Nat.mul_le_mul_left _ hb2
 refine ⟨_, e1, ?_⟩
 rw [or64 _ _ (by omega) (by omega), Nat.or_comm]
 rw [hr] at ha ⊢
 rw [or_sum i _ _ ha]
def rF (xs : List Nat) : Nat → Nat
 | 0 => 19
 | k + 1 => (rF xs k + xs.getD k 0) / 2251799813685248
def cF (xs : List Nat) (c : Nat) : Nat → Nat
 | 0 => c
 | k + 1 => (cF xs c k + xs.getD k 0) / 2251799813685248
def nats (xs : List Nat) : List Value := xs.map fun n : Nat => .int .u64 (n : Int)
theorem nats_get {xs : List Nat} {i : Nat} (h : i < xs.length) : (nats xs)[i]? = some (.int .u64 ((xs.getD i 0 : Nat) : Int)) := by simp [nats, List.getD, h]
theorem nats_set (xs : List Nat) (i n : Nat) : (nats xs).set i (.int .u64 (n : Int)) = nats (xs.set i n) := by
 unfold nats
 rw [q127]
theorem rF_lt (xs : List Nat) (h : ∀ i, xs.getD i 0 < 2251799813947392) : ∀ k, rF xs k ≤ 19
 | 0 => q102 _
 | k + 1 => by
  have := rF_lt xs h k
  have := h k
  simp only [rF]
  omega
theorem cF_lt (xs : List Nat) (c : Nat) (hc : c ≤ 361) (h : ∀ i, xs.getD i 0 < 2251799813947392) : ∀ k, cF xs c k ≤ 361
 | 0 => hc
 | k + 1 => by
  have := cF_lt xs c hc h k
  have := h k
  simp only [cF]
  omega
structure OutL (xs : List Nat) (c : Nat) (ys : List Nat) (k : Nat) : Prop where
 len : ys.length = 5
 low : ∀ i, i < k → ys.getD i 0 = (cF xs c i + xs.getD i 0) % 2251799813685248
 high : ∀ i, k ≤ i → ys.getD i 0 = xs.getD i 0
theorem getD_setN {zs : List Nat} {i : Nat} {z : Nat} (h : i < zs.length) : (zs.set i z).getD i 0 = z := by simp [List.getD, h]
theorem zeb {zs : List Nat} {i j : Nat} {z : Nat} (h : i ≠ j) : (zs.set i z).getD j 0 = zs.getD j 0 := by simp [List.getD, List.getElem?_set_ne h]
theorem OutL.step {xs ys : List Nat} {c k : Nat} (h : OutL xs c ys k) (hk : k < 5) : OutL xs c (ys.set k ((cF xs c k + xs.getD k 0) % 2251799813685248)) (k + 1) := by
 obtain ⟨h1, h2, h3⟩ := h
 refine ⟨by simp [h1], fun i hi => ?_, fun i hi => ?_⟩
 ·by_cases e : i = k
  ·subst e
   rw [getD_setN (by omega)]
  ·rw [zeb (by omega)]
   exact h2 i (by omega)
 ·rw [zeb (by omega)]
  exact h3 i (by omega)
theorem list5 (ys : List Nat) (h : ys.length = 5) : ys = [ys.getD 0 0, ys.getD 1 0, ys.getD 2 0, ys.getD 3 0, ys.getD 4 0] := by
 match ys, h with
 | [_, _, _, _, _], _ => rfl
theorem getD_all5 {x : L5} {B : Nat} (h : x.lt B) (hB : 0 < B) : ∀ i, [x.a, x.b, x.c, x.d, x.e].getD i 0 < B := by
 intro i
 obtain ⟨h0, h1, h2, h3, h4⟩ := h
 match i with
 | 0 => exact h0
 | 1 => exact h1
 | 2 => exact h2
 | 3 => exact h3
 | 4 => exact h4
 | n + 5 => simpa [List.getD] using hB
theorem out_done {x : L5} (hx : x.lt 2251799813947392) {ys : List Nat} (h : OutL [x.a, x.b, x.c, x.d, x.e] (19 * rF [x.a, x.b, x.c, x.d, x.e] 5) ys 5) :
  ∃ y : L5, ys = [y.a, y.b, y.c, y.d, y.e] ∧ y.lt 2251799813685248 ∧ y.val = x.val % 57896044618658097711785492504343953926634992332820282019728792003956564819949 := by
 obtain ⟨x0, x1, x2, x3, x4⟩ := x
 obtain ⟨b0, b1, b2, b3, b4⟩ := hx
 have e := list5 ys h.len
 have f0 := h.low 0 (by omega)
 have f1 := h.low 1 (by omega)
 have f2 := h.low 2 (by omega)
 have f3 := h.low 3 (by omega)
 have f4 := h.low 4 (by omega)
 refine ⟨⟨ys.getD 0 0, ys.getD 1 0, ys.getD 2 0, ys.getD 3 0, ys.getD 4 0⟩, e, ?_, ?_⟩
 ·simp only [L5.lt]
  omega
 ·exact out_steps b0 b1 b2 b3 b4 rfl rfl rfl rfl rfl rfl rfl rfl rfl rfl f0 f1 f2 f3 f4
theorem zcz (x : L5) (hx : x.lt 18446744073709551616) (w : World) :
  Calls Tryz.prog 111 #[x.v] w fun e w' => e = .returned (numP (x.val : Nat)) ∧ Below w.heap.size w w' := by
 have HC := jh (carried_any x hx)
 have HCL := jh (carriedL_lt x hx)
 have HCV := jh (carriedL_val x)
 have HX := jh hx
 have HB := jh (boxes2 w x.vs (ints .u8 (List.replicate 32 0)) 147 23)
 clear hx
 unfold L5.v
 go_enter Tryz.func111, Tryz.ntmps111
 go_wp2_with (refine slb w.heap.size HB.out.1 q104 Tryz.arr147 ?_)
 change Calls _ _ _ ((w.alloc (.cells x.vs.toArray 147)).alloc (.cells (ints .u8 (List.replicate 32 0)).toArray 23)) _
 generalize (w.alloc (.cells x.vs.toArray 147)).alloc (.cells (ints .u8 (List.replicate 32 0)).toArray 23) = w0 at *
 obtain ⟨h1, h2, h4⟩ := HB.out
 obtain ⟨A, hA⟩ : ∃ A, A = w.heap.size := ⟨_, rfl⟩
 rw [← hA] at h1 h2 ⊢
 have hA2 : w.heap.size ≤ A := by omega
 have H1 := jh h1
 have H2 := jh h2
 have HE : Hid (Ext w w0) := jh h4
 clear h1 h2 h4 HB hA
 refine (HC.out w0).mono ?_
 rintro e w1 ⟨rfl, hb1⟩
 have H1 := xb H1 hb1
 have H2 := xb H2 hb1
 have HE := xt HE hb1
 clear hb1 HC
 have HCV2 : Hid (Cong ((carriedL x).val : Nat) (x.val : Nat)) := HCV
 generalize carriedL x = z at *
 go_wp2_with (refine ssb A z.vs H1.out rfl Tryz.arr147 (L5.vs_one _) ?_; intro w2 hb2 hg2)
 have hvs : z.vs = nats [z.a, z.b, z.c, z.d, z.e] := rfl
 rw [hvs] at hb2
 have HXB := jh (getD_all5 HCL.out (by omega))
 have H1 := jh hb2
 have H2 := jh (H2.out.grown hg2 (by simp))
 have HE := jh (zab HE.out hg2 hA2)
 clear hb2 hg2 hvs
 go_loop [3, 10] (fun r i => ∃ k : Nat, k ≤ 5 ∧ i = .int .i64 k ∧ r = .int .u64 ((rF [z.a, z.b, z.c, z.d, z.e] k : Nat) : Int)) (fun _ i => 5 - (intOf i).toNat)
 case atStart => exact ⟨0, by omega, rfl, rfl⟩
 case round =>
  obtain ⟨k, hk, rfl, rfl⟩ := hrel
  have i0' : (0 : Int) ≤ (k : Int) := Int.natCast_nonneg _
  by_cases hlt : k < 5
  ·have i1 : (k : Int) < 5 := by omega
   have e1 := H1.out.cell k
   rw [nats_get (by simpa using hlt)] at e1
   have q1 := rF_lt _ HXB.out k
   have q2 := HXB.out k
   have q3 : (((rF [z.a, z.b, z.c, z.d, z.e] k : Nat) : Int) + (([z.a, z.b, z.c, z.d, z.e].getD k 0 : Nat) : Int)) / 2251799813685248 = ((rF [z.a, z.b, z.c, z.d, z.e] (k + 1) : Nat) : Int) := by
    simp only [rF]
    omega
   obtain ⟨r2, hr2⟩ : ∃ r, r = rF [z.a, z.b, z.c, z.d, z.e] (k + 1) := ⟨_, rfl⟩
   rw [← hr2] at q3
   have HR2 := jh hr2
   clear hr2
   generalize rF [z.a, z.b, z.c, z.d, z.e] k = r1 at *
   generalize [z.a, z.b, z.c, z.d, z.e].getD k 0 = xk at *
   go_wp2_with fail
   go_round
   case rel => exact ⟨k + 1, by omega, by go_num, by rw [HR2.out]⟩
   case measure => simp [intOf]; omega
  ·have hk' : k = 5 := by omega
   subst hk'
   have HR5 := jh (rF_lt _ HXB.out 5)
   have hmul : IntKind.u64.wrap (19 * ((rF [z.a, z.b, z.c, z.d, z.e] 5 : Nat) : Int)) = ((19 * rF [z.a, z.b, z.c, z.d, z.e] 5 : Nat) : Int) := by
    have := HR5.out
    rw [IntKind.wrap_u64]
    omega
   have hc0 : 19 * rF [z.a, z.b, z.c, z.d, z.e] 5 ≤ 361 := by
    have := HR5.out
    omega
   have HDN := jh (fun ys => @out_done z HCL.out ys)
   clear HR5
   generalize rF [z.a, z.b, z.c, z.d, z.e] 5 = r5 at *
   have HC0 := jh hc0
   clear hc0
   generalize 19 * r5 = c0 at *
   go_wp2_with fail
   obtain ⟨xs, hxs⟩ : ∃ xs, xs = [z.a, z.b, z.c, z.d, z.e] := ⟨_, rfl⟩
   have hxl : xs.length = 5 := by rw [hxs]; rfl
   rw [← hxs] at H1 HXB HDN
   have HXS := jh hxs
   have HXL := jh hxl
   clear hxs hxl
   obtain ⟨wo, rfl⟩ : ∃ wo : World, wo = w2 := ⟨_, rfl⟩
   go_loopw [5, 22] (fun c i wr => ∃ (k : Nat) (ys : List Nat), k ≤ 5 ∧ i = .int .i64 k ∧ c = .int .u64 ((cF xs c0 k : Nat) : Int) ∧ OutL xs c0 ys k ∧ Blk wr A (nats ys) 147 ∧ Blk wr (A + 1) (ints .u8 (List.replicate 32 0)) 23 ∧ Ext w wr) (fun _ i _ => 5 - (intOf i).toNat)
   case atStart => exact ⟨0, xs, by omega, rfl, rfl, ⟨HXL.out, fun i hi => by omega, fun i _ => rfl⟩, H1.out, H2.out, HE.out⟩
   case round =>
    clear H1 H2 HE
    obtain ⟨k, ys, hk, rfl, rfl, hout, hb1, hb2, hbe⟩ := hrel
    have i0' : (0 : Int) ≤ (k : Int) := Int.natCast_nonneg _
    have hl5 := hout.len
    by_cases hlt : k < 5
    ·have i1 : (k : Int) < 5 := by omega
     have e1 := hb1.cell k
     rw [nats_get (by omega), hout.high k (q102 _)] at e1
     have f1 := hb1.free k
     have q1 := cF_lt xs c0 HC0.out HXB.out k
     have q2 := HXB.out k
     have hst := hout.step hlt
     obtain ⟨c2, hc2⟩ : ∃ r, r = cF xs c0 (k + 1) := ⟨_, rfl⟩
     have hc3 : c2 = (cF xs c0 k + xs.getD k 0) / 2251799813685248 := hc2
     generalize cF xs c0 k = c1 at *
     generalize xs.getD k 0 = xk at *
     have w1 : IntKind.u64.wrap ((c1 : Int) + (xk : Int)) = (c1 : Int) + (xk : Int) := by rw [IntKind.wrap_u64]; omega
     have w2' : ((c1 : Int) + (xk : Int)) = ((c1 + xk : Nat) : Int) := by omega
     generalize hs : c1 + xk = s at *
     have hm : bits .and .u64 (s : Int) 2251799813685247 = ((s % 2251799813685248 : Nat) : Int) := mask51 s (by omega)
     have hd : (s : Int) / 2251799813685248 = (c2 : Int) := by omega
     have w3 : IntKind.u64.wrap (s : Int) = (s : Int) := w64 (by omega)
     generalize s % 2251799813685248 = m at *
     have HST := jh hst
     have HB1 := jh hb1
     have HB2 := jh hb2
     have HBE := jh hbe
     have HC2 := jh hc2
     clear hst hb1 hb2 hbe hc2 hc3 hs hout hl5 q1 q2
     go_wp2_with fail
     go_roundw
     case rel =>
      refine ⟨k + 1, _, by omega, by go_num, by rw [HC2.out], HST.out, ?_, HB2.out.far (by simp) _, HBE.out.setCell hA2 _⟩
      rw [← nats_set]
      exact HB1.out.set k _
     case measure => simp [intOf]; omega
    ·have hk' : k = 5 := by omega
     subst hk'
     obtain ⟨y, rfl, hylt, hyval⟩ := HDN.out ys hout
     obtain ⟨y0, y1, y2, y3, y4⟩ := y
     obtain ⟨g0, g1, g2, g3, g4⟩ := hylt
     simp only at g0 g1 g2 g3 g4
     have HF : Hid (b8 (2251799813685248 * (y1 % 8192) + y0) ++ b8 (274877906944 * (y2 % 67108864) + y1 / 8192) ++ b8 (33554432 * (y3 % 549755813888) + y2 / 67108864) ++ b8 (4096 * (y4 % 4503599627370496) + y3 / 549755813888) = (nb (x.val : Nat)).map bval) := jh (by
      rw [words_of g0 g1 g2 g3 g4, hyval]
      have hq : ((x.val : Nat) : Int) % pP = ((z.val % 57896044618658097711785492504343953926634992332820282019728792003956564819949 : Nat) : Int) := (cong_iff.1 HCV.out).symm
      unfold nb
      rw [hq, Int.toNat_natCast])
     obtain ⟨s0, z0, l0⟩ := lay_or y0 y1 2251799813685248 8192 51 (by decide) g0 (by omega) (by omega)
     obtain ⟨s1, z1, l1⟩ := lay_or (y1 / 8192) y2 274877906944 67108864 38 (by decide) (by omega) (by omega) (by omega)
     obtain ⟨s2, z2, l2⟩ := lay_or (y2 / 67108864) y3 33554432 549755813888 25 (by decide) (by omega) (by omega) (by omega)
     obtain ⟨s3, z3, l3⟩ := lay_or (y3 / 549755813888) y4 4096 4503599627370496 12 (by decide) (by omega) (by omega) (by omega)
     simp only [Int.cast_ofNat_Int] at z0 z1 z2 z3
     generalize hv0 : 2251799813685248 * (y1 % 8192) + y0 = v0 at *
     generalize hv1 : 274877906944 * (y2 % 67108864) + y1 / 8192 = v1 at *
     generalize hv2 : 33554432 * (y3 % 549755813888) + y2 / 67108864 = v2 at *
     generalize hv3 : 4096 * (y4 % 4503599627370496) + y3 / 549755813888 = v3 at *
     have k1 : (y1 : Int) / 8192 = ((y1 / 8192 : Nat) : Int) := by omega
     have k2 : (y2 : Int) / 67108864 = ((y2 / 67108864 : Nat) : Int) := by omega
     have k3 : (y3 : Int) / 549755813888 = ((y3 / 549755813888 : Nat) : Int) := by omega
     generalize y1 / 8192 = q1 at *
     generalize y2 / 67108864 = q2 at *
     generalize y3 / 549755813888 = q3 at *
     have HS0 := jh z0
     have HS1 := jh z1
     have HS2 := jh z2
     have HS3 := jh z3
     have HQ1 := jh k1
     have HQ2 := jh k2
     have HQ3 := jh k3
     have HV0 := jh l0
     have HV1 := jh l1
     have HV2 := jh l2
     have HV3 := jh l3
     have H1 := jh (hb1.alloc (.cells (ints .u8 (List.replicate 32 0)).toArray 23))
     have H2 := jh (hb2.alloc (.cells (ints .u8 (List.replicate 32 0)).toArray 23))
     have HD := jh (Blk.made wr (ints .u8 (List.replicate 32 0)) 23)
     have HE : Hid (Ext w (wr.alloc (.cells (ints .u8 (List.replicate 32 0)).toArray 23))) := jh (Ext.trans hbe (Ext.alloc wr _))
     obtain ⟨D, hD⟩ : ∃ D, D = wr.heap.size := ⟨_, rfl⟩
     have hDA : A + 1 < D := by have := hb2.lt; omega
     rw [← hD] at HD
     clear g0 g1 g2 g3 g4 l0 l1 l2 l3 z0 z1 z2 z3 hv0 hv1 hv2 hv3 k1 k2 k3 hb1 hb2 hbe hout hl5 hyval
     go_wp2_with fail
     rw [← hD]
     change Code.wp _ _ _ _ (wr.alloc (.cells (ints .u8 (List.replicate 32 0)).toArray 23))
     generalize wr.alloc (.cells (ints .u8 (List.replicate 32 0)).toArray 23) = w3 at *
     have HD0 := HD
     clear hD HD
     refine swf 7 1 7 ?_
     refine zaw (.slice (some ⟨D, 0, none⟩) 8 32) (by rfl) (fun w hw => by go_simp) ?_
     simp only [nm]
     refine sdi A 5 0 q104 (by omega) (q106) ?_
     simp only [nm]
     refine sdl A 0 (.int .u64 ((y0 : Nat) : Int)) (fun w hw => (zad H1.out hw).cell 0) (q105) ?_
     simp only [nm]
     refine sdi A 5 1 q104 (by omega) (q106) ?_
     simp only [nm]
     refine sdl A 1 (.int .u64 ((y1 : Nat) : Int)) (fun w hw => (zad H1.out hw).cell 1) (q105) ?_
     simp only [nm]
     refine zaw (.int .u64 ((s0 : Nat) : Int)) (by rfl) (fun w hw => by have h := HS0.out; go_simp) ?_
     simp only [nm]
     refine det_or _ _ _ _ _ _ _ (v0 : Nat) (by rfl) rfl rfl rfl HV0.out ?_
     simp only [nm]
     refine zao (zeh (k := 7) rfl (by kernel_rfl) (by kernel_rfl) (by kernel_rfl) rfl (fun w0 hw0 => ?_))
     have HP0 := putWord_any D 0 32 v0 _ _ w0 (zad HD0.out hw0) (by simp [b8, zaa])
     have H1 := xb H1 hw0
     have H2 := xb H2 hw0
     have HE := xt HE hw0
     clear hw0
     go_simp
     refine HP0.mono ?_
     clear HP0
     rintro e x0 ⟨rfl, hb0, hg0⟩
     have HD1 : Hid (Blk x0 D (b8 v0 ++ ints .u8 (List.replicate 24 0)) 23) := jh hb0
     have H1 := jh (H1.out.grown hg0 (by simp; omega))
     have H2 := jh (H2.out.grown hg0 (by simp; omega))
     have HE := jh (zab HE.out hg0 (by omega))
     clear hb0 hg0
     go_wp2_with fail
     refine swf 8 1 8 ?_
     refine zaw (.slice (some ⟨D, 8, none⟩) 8 24) (by rfl) (fun w hw => by go_simp) ?_
     simp only [nm]
     refine sdi A 5 1 q104 (by omega) (q106) ?_
     simp only [nm]
     refine sdl A 1 (.int .u64 ((y1 : Nat) : Int)) (fun w hw => (zad H1.out hw).cell 1) (q105) ?_
     simp only [nm]
     refine zaw (.int .u64 ((q1 : Nat) : Int)) (by rfl) (fun w hw => by have h := HQ1.out; go_simp) ?_
     simp only [nm]
     refine sdi A 5 2 q104 (by omega) (q106) ?_
     simp only [nm]
     refine sdl A 2 (.int .u64 ((y2 : Nat) : Int)) (fun w hw => (zad H1.out hw).cell 2) (q105) ?_
     simp only [nm]
     refine zaw (.int .u64 ((s1 : Nat) : Int)) (by rfl) (fun w hw => by have h := HS1.out; go_simp) ?_
     simp only [nm]
     refine det_or _ _ _ _ _ _ _ (v1 : Nat) (by rfl) rfl rfl rfl HV1.out ?_
     simp only [nm]
     refine zao (zeh (k := 8) rfl (by kernel_rfl) (by kernel_rfl) (by kernel_rfl) rfl (fun w1 hw1 => ?_))
     have HP1 := putWord_any D 8 24 v1 _ _ w1 (zad HD1.out hw1) (by simp [b8, zaa])
     have H1 := xb H1 hw1
     have H2 := xb H2 hw1
     have HE := xt HE hw1
     clear hw1
     go_simp
     refine HP1.mono ?_
     clear HP1
     rintro e x1 ⟨rfl, hb1, hg1⟩
     have HD2 : Hid (Blk x1 D (b8 v0 ++ b8 v1 ++ ints .u8 (List.replicate 16 0)) 23) := jh hb1
     have H1 := jh (H1.out.grown hg1 (by simp; omega))
     have H2 := jh (H2.out.grown hg1 (by simp; omega))
     have HE := jh (zab HE.out hg1 (by omega))
     clear hb1 hg1
     go_wp2_with fail
     refine swf 8 1 8 ?_
     refine zaw (.slice (some ⟨D, 16, none⟩) 8 16) (by rfl) (fun w hw => by go_simp) ?_
     simp only [nm]
     refine sdi A 5 2 q104 (by omega) (q106) ?_
     simp only [nm]
     refine sdl A 2 (.int .u64 ((y2 : Nat) : Int)) (fun w hw => (zad H1.out hw).cell 2) (q105) ?_
     simp only [nm]
     refine zaw (.int .u64 ((q2 : Nat) : Int)) (by rfl) (fun w hw => by have h := HQ2.out; go_simp) ?_
     simp only [nm]
     refine sdi A 5 3 q104 (by omega) (q106) ?_
     simp only [nm]
     refine sdl A 3 (.int .u64 ((y3 : Nat) : Int)) (fun w hw => (zad H1.out hw).cell 3) (q105) ?_
     simp only [nm]
     refine zaw (.int .u64 ((s2 : Nat) : Int)) (by rfl) (fun w hw => by have h := HS2.out; go_simp) ?_
     simp only [nm]
     refine det_or _ _ _ _ _ _ _ (v2 : Nat) (by rfl) rfl rfl rfl HV2.out ?_
     simp only [nm]
     refine zao (zeh (k := 8) rfl (by kernel_rfl) (by kernel_rfl) (by kernel_rfl) rfl (fun w2 hw2 => ?_))
     have HP2 := putWord_any D 16 16 v2 _ _ w2 (zad HD2.out hw2) (by simp [b8, zaa])
     have H1 := xb H1 hw2
     have H2 := xb H2 hw2
     have HE := xt HE hw2
     clear hw2
     go_simp
     refine HP2.mono ?_
     clear HP2
     rintro e x2 ⟨rfl, hb2, hg2⟩
     have HD3 : Hid (Blk x2 D (b8 v0 ++ b8 v1 ++ b8 v2 ++ ints .u8 (List.replicate 8 0)) 23) := jh hb2
     have H1 := jh (H1.out.grown hg2 (by simp; omega))
     have H2 := jh (H2.out.grown hg2 (by simp; omega))
     have HE := jh (zab HE.out hg2 (by omega))
     clear hb2 hg2
     go_wp2_with fail
     refine swf 8 1 8 ?_
     refine zaw (.slice (some ⟨D, 24, none⟩) 8 8) (by rfl) (fun w hw => by go_simp) ?_
     simp only [nm]
     refine sdi A 5 3 q104 (by omega) (q106) ?_
     simp only [nm]
     refine sdl A 3 (.int .u64 ((y3 : Nat) : Int)) (fun w hw => (zad H1.out hw).cell 3) (q105) ?_
     simp only [nm]
     refine zaw (.int .u64 ((q3 : Nat) : Int)) (by rfl) (fun w hw => by have h := HQ3.out; go_simp) ?_
     simp only [nm]
     refine sdi A 5 4 q104 (by omega) (q106) ?_
     simp only [nm]
     refine sdl A 4 (.int .u64 ((y4 : Nat) : Int)) (fun w hw => (zad H1.out hw).cell 4) (q105) ?_
     simp only [nm]
     refine zaw (.int .u64 ((s3 : Nat) : Int)) (by rfl) (fun w hw => by have h := HS3.out; go_simp) ?_
     simp only [nm]
     refine det_or _ _ _ _ _ _ _ (v3 : Nat) (by rfl) rfl rfl rfl HV3.out ?_
     simp only [nm]
     refine zao (zeh (k := 8) rfl (by kernel_rfl) (by kernel_rfl) (by kernel_rfl) rfl (fun w3 hw3 => ?_))
     have HP3 := putWord_any D 24 8 v3 _ _ w3 (zad HD3.out hw3) (by simp [b8, zaa])
     have H1 := xb H1 hw3
     have H2 := xb H2 hw3
     have HE := xt HE hw3
     clear hw3
     go_simp
     refine HP3.mono ?_
     clear HP3
     rintro e x3 ⟨rfl, hb3, hg3⟩
     have HD4 : Hid (Blk x3 D (b8 v0 ++ b8 v1 ++ b8 v2 ++ b8 v3) 23) := jh hb3
     have H1 := jh (H1.out.grown hg3 (by simp; omega))
     have H2 := jh (H2.out.grown hg3 (by simp; omega))
     have HE := jh (zab HE.out hg3 (by omega))
     clear hb3 hg3
     have hi1 : Hid ((Tryz.prog.info? 23).map (·.size) = some (b8 v0 ++ b8 v1 ++ b8 v2 ++ b8 v3).length) := jh Tryz.arr23
     have ho1 : Hid (∀ v ∈ b8 v0 ++ b8 v1 ++ b8 v2 ++ b8 v3, v.oneCell' = true) := jh (by rw [HF.out]; exact zaf _)
     go_wp2_with (first | (refine slb D HD4.out q100 hi1.out ?_) | (refine zbe rfl _ _ _ rfl (A + 1) _ rfl rfl _ _ H2.out rfl hi1.out ho1.out ?_; intro w7 hb7 hg7))
     exact bodyPost_ret (v := .agg (b8 v0 ++ b8 v1 ++ b8 v2 ++ b8 v3).toArray) (zap (by rfl) _ (A + 1) _ _ _ (by rfl) hb7 q100 rfl hi1.out) rfl ⟨by rw [HF.out]; rfl, zab HE.out hg7 (by omega)⟩
theorem nb_len (x : Int) : ((nb x).map bval).length = zero32.length := by rw [q101, zbr]; rfl
theorem zcs (x : Int) : (Tryz.prog.info? 23).map (·.size) = some ((nb x).map bval).length := by rw [q101, zbr]; exact Tryz.arr23
theorem nb_cong {x y : Int} (h : Cong x y) : nb x = nb y := by unfold nb; rw [cong_iff.1 h]
theorem numP_cong {x y : Int} (h : Cong x y) : numP x = numP y := by
 show Value.agg ((nb x).map bval).toArray = Value.agg ((nb y).map bval).toArray
 rw [nb_cong h]
theorem Mul_num (l m : List UInt8) (w : World) (hl : l.length = 32) (hm : m.length = 32) :
  Calls Tryz.prog 83 #[.agg (l.map bval).toArray, .agg (m.map bval).toArray] w fun e w' => e = .returned (numP ((leN l : Int) * leN m)) ∧ Below w.heap.size w w' := by
 have HV := jh (numP_cong ((zdq (limbsL l) (limbsL m)).trans ((zdz l hl).mul (zdz m hm))))
 have HLl := jh hl
 have HLm := jh hm
 have HIl : Hid ((Tryz.prog.info? 23).map (·.size) = some (l.map bval).length) := jh (by rw [q101, hl]; exact Tryz.arr23)
 have HIm : Hid ((Tryz.prog.info? 23).map (·.size) = some (m.map bval).length) := jh (by rw [q101, hm]; exact Tryz.arr23)
 have HB := jh (boxes3 w (l.map bval) (m.map bval) zero32 23 23 23)
 clear hl hm
 go_enter Tryz.func83, Tryz.ntmps83
 go_wp2_with fail
 change Code.wp _ _ _ _ (((w.alloc (.cells (l.map bval).toArray 23)).alloc (.cells (m.map bval).toArray 23)).alloc (.cells zero32.toArray 23))
 generalize ((w.alloc (.cells (l.map bval).toArray 23)).alloc (.cells (m.map bval).toArray 23)).alloc (.cells zero32.toArray 23) = w0 at *
 obtain ⟨h1, h2, h3, h4⟩ := HB.out
 obtain ⟨A, hA⟩ : ∃ A, A = w.heap.size := ⟨_, rfl⟩
 rw [← hA] at h1 h2 h3 ⊢
 have hA2 : w.heap.size ≤ A := by omega
 have H1 := jh h1
 have H2 := jh h2
 have H3 := jh h3
 have HE : Hid (Ext w w0) := jh h4
 clear h1 h2 h3 h4 HB hA
 refine swf 6 1 6 ?_
 refine zax _ _ A (l.map bval) _ (by rfl) rfl rfl (fun w hw => zaq H1.out hw) q100 rfl HIl.out ?_
 simp only [nm]
 refine sdc [.agg (l.map bval).toArray] ((limbsL l).v) Tryz.call112 (fun w hw => zdl l HLl.out w) ?_
 simp only [nm]
 refine zax _ _ (A + 1) (m.map bval) _ (by rfl) rfl rfl (fun w hw => zaq H2.out hw) q100 rfl HIm.out ?_
 simp only [nm]
 refine sdc [.agg (m.map bval).toArray] ((limbsL m).v) Tryz.call112 (fun w hw => zdl m HLm.out w) ?_
 simp only [nm]
 refine sdc [(limbsL l).v, (limbsL m).v] ((timesL (limbsL l) (limbsL m)).v) q148 (fun w hw => zcw _ _ (limbsL_lt l) (limbsL_lt m) w) ?_
 simp only [nm]
 refine sdc [(timesL (limbsL l) (limbsL m)).v] (numP ((timesL (limbsL l) (limbsL m)).val : Nat)) Tryz.call111 (fun w hw => zcz _ ((zcx (limbsL_lt l) (limbsL_lt m)).mono (by omega)) w) ?_
 simp only [nm]
 rw [HV.out]
 refine zao (zec (k := 6) _ _ _ _ (A + 1 + 1) ((nb ((leN l : Int) * leN m)).map bval) zero32 rfl (by kernel_rfl) (by kernel_rfl) (by kernel_rfl) rfl rfl rfl rfl H3.out (nb_len _) (zcs _) (zaf _) (fun w8 hb8 hg8 => ?_))
 simp only [Act.put]
 go_wp2_with fail
 exact bodyPost_ret (v := numP ((leN l : Int) * leN m)) (zap (by rfl) _ (A + 1 + 1) _ _ _ (by rfl) hb8 q100 rfl (zcs _)) rfl ⟨rfl, zab HE.out hg8 (by omega)⟩
theorem limbsL_lt2 (l : List UInt8) : (limbsL l).lt 2251799813685267 := by
 have hd := wAt_lt l 24
 refine ⟨?_, ?_, ?_, ?_, ?_⟩ <;> simp only [limbsL, limbsW] <;> omega
structure SumL (xs ys zs : List Nat) (k : Nat) : Prop where
 len : zs.length = 5
 low : ∀ i, i < k → zs.getD i 0 = xs.getD i 0 + ys.getD i 0
 high : ∀ i, k ≤ i → zs.getD i 0 = xs.getD i 0
theorem SumL.step {xs ys zs : List Nat} {k : Nat} (h : SumL xs ys zs k) (hk : k < 5) : SumL xs ys (zs.set k (xs.getD k 0 + ys.getD k 0)) (k + 1) := by
 obtain ⟨h1, h2, h3⟩ := h
 refine ⟨by simp [h1], fun i hi => ?_, fun i hi => ?_⟩
 ·by_cases e : i = k
  ·subst e
   rw [getD_setN (by omega)]
  ·rw [zeb (by omega)]
   exact h2 i (by omega)
 ·rw [zeb (by omega)]
  exact h3 i (by omega)
theorem sum_done {x y : L5} {xs ys zs : List Nat} (ex : xs = [x.a, x.b, x.c, x.d, x.e]) (ey : ys = [y.a, y.b, y.c, y.d, y.e]) (hx : x.lt 2251799813685267) (hy : y.lt 2251799813685267) (h : SumL xs ys zs 5) :
  ∃ z : L5, zs = [z.a, z.b, z.c, z.d, z.e] ∧ z.lt 18446744073709551616 ∧ z.val = x.val + y.val := by
 subst ex
 subst ey
 have e := list5 zs h.len
 have f0 := h.low 0 (by omega)
 have f1 := h.low 1 (by omega)
 have f2 := h.low 2 (by omega)
 have f3 := h.low 3 (by omega)
 have f4 := h.low 4 (by omega)
 simp only [List.getD_cons_zero, List.getD_cons_succ] at f0 f1 f2 f3 f4
 obtain ⟨a0, a1, a2, a3, a4⟩ := hx
 obtain ⟨b0, b1, b2, b3, b4⟩ := hy
 refine ⟨⟨zs.getD 0 0, zs.getD 1 0, zs.getD 2 0, zs.getD 3 0, zs.getD 4 0⟩, e, ?_, ?_⟩
 ·simp only [L5.lt]
  omega
 ·simp only [L5.val]
  omega
def twiceL : L5 := ⟨4503599627370458, 4503599627370494, 4503599627370494, 4503599627370494, 4503599627370494⟩
def twiceN : List Nat := [4503599627370458, 4503599627370494, 4503599627370494, 4503599627370494, 4503599627370494]
theorem twice_bounds (k : Nat) (h : k < 5) : 4503599627370458 ≤ twiceN.getD k 0 ∧ twiceN.getD k 0 ≤ 4503599627370494 := by
 match k, h with
 | 0, _ => decide
 | 1, _ => decide
 | 2, _ => decide
 | 3, _ => decide
 | 4, _ => decide
structure DifL (xs ys zs : List Nat) (k : Nat) : Prop where
 len : zs.length = 5
 low : ∀ i, i < k → zs.getD i 0 = xs.getD i 0 + (twiceN.getD i 0 - ys.getD i 0)
 high : ∀ i, k ≤ i → zs.getD i 0 = xs.getD i 0
theorem DifL.step {xs ys zs : List Nat} {k : Nat} (h : DifL xs ys zs k) (hk : k < 5) : DifL xs ys (zs.set k (xs.getD k 0 + (twiceN.getD k 0 - ys.getD k 0))) (k + 1) := by
 obtain ⟨h1, h2, h3⟩ := h
 refine ⟨by simp [h1], fun i hi => ?_, fun i hi => ?_⟩
 ·by_cases e : i = k
  ·subst e
   rw [getD_setN (by omega)]
  ·rw [zeb (by omega)]
   exact h2 i (by omega)
 ·rw [zeb (by omega)]
  exact h3 i (by omega)
theorem dif_done {x y : L5} {xs ys zs : List Nat} (ex : xs = [x.a, x.b, x.c, x.d, x.e]) (ey : ys = [y.a, y.b, y.c, y.d, y.e]) (hx : x.lt 2251799813685267) (hy : y.lt 2251799813685267) (h : DifL xs ys zs 5) :
  ∃ z : L5, zs = [z.a, z.b, z.c, z.d, z.e] ∧ z.lt 18446744073709551616 ∧ Cong (z.val : Nat) ((x.val : Int) - (y.val : Nat)) := by
 subst ex
 subst ey
 have e := list5 zs h.len
 have f0 := h.low 0 (by omega)
 have f1 := h.low 1 (by omega)
 have f2 := h.low 2 (by omega)
 have f3 := h.low 3 (by omega)
 have f4 := h.low 4 (by omega)
 simp only [twiceN, List.getD_cons_zero, List.getD_cons_succ] at f0 f1 f2 f3 f4
 obtain ⟨a0, a1, a2, a3, a4⟩ := hx
 obtain ⟨b0, b1, b2, b3, b4⟩ := hy
 refine ⟨⟨zs.getD 0 0, zs.getD 1 0, zs.getD 2 0, zs.getD 3 0, zs.getD 4 0⟩, e, ?_, 2, ?_⟩
 ·simp only [L5.lt]
  omega
 ·have hp : pP = 57896044618658097711785492504343953926634992332820282019728792003956564819949 := rfl
  rw [hp]
  simp only [L5.val]
  omega
theorem Add_num (l m : List UInt8) (w : World) (hl : l.length = 32) (hm : m.length = 32) :
  Calls Tryz.prog 85 #[.agg (l.map bval).toArray, .agg (m.map bval).toArray] w fun e w' => e = .returned (numP ((leN l : Int) + leN m)) ∧ Below w.heap.size w w' := by
 have HLl := jh hl
 have HLm := jh hm
 have HIl : Hid ((Tryz.prog.info? 23).map (·.size) = some (l.map bval).length) := jh (by rw [q101, hl]; exact Tryz.arr23)
 have HIm : Hid ((Tryz.prog.info? 23).map (·.size) = some (m.map bval).length) := jh (by rw [q101, hm]; exact Tryz.arr23)
 have HB := jh (boxes3 w (l.map bval) (m.map bval) zero32 23 23 23)
 clear hl hm
 go_enter Tryz.func85, Tryz.ntmps85
 go_wp2_with fail
 change Code.wp _ _ _ _ (((w.alloc (.cells (l.map bval).toArray 23)).alloc (.cells (m.map bval).toArray 23)).alloc (.cells zero32.toArray 23))
 generalize ((w.alloc (.cells (l.map bval).toArray 23)).alloc (.cells (m.map bval).toArray 23)).alloc (.cells zero32.toArray 23) = w0 at *
 obtain ⟨h1, h2, h3, h4⟩ := HB.out
 obtain ⟨A, hA⟩ : ∃ A, A = w.heap.size := ⟨_, rfl⟩
 rw [← hA] at h1 h2 h3 ⊢
 have hA2 : w.heap.size ≤ A := by omega
 have H1 := jh h1
 have H2 := jh h2
 have H3 := jh h3
 have HE : Hid (Ext w w0) := jh h4
 clear h1 h2 h3 h4 HB hA
 have H30 := H3.out.lt
 refine swf 4 4 6 ?_
 refine zax _ _ A (l.map bval) _ (by rfl) rfl rfl (fun w hw => zaq H1.out hw) q100 rfl HIl.out ?_
 simp only [nm]
 refine sdc [.agg (l.map bval).toArray] ((limbsL l).v) Tryz.call112 (fun w hw => zdl l HLl.out w) ?_
 simp only [nm]
 refine zax _ _ (A + 1) (m.map bval) _ (by rfl) rfl rfl (fun w hw => zaq H2.out hw) q100 rfl HIm.out ?_
 simp only [nm]
 refine sdc [.agg (m.map bval).toArray] ((limbsL m).v) Tryz.call112 (fun w hw => zdl m HLm.out w) ?_
 simp only [nm]
 refine zao (end_var2 (k := 4) _ 5 6 (.tmp 9) (.tmp 11) zero5 (limbsL l).vs (limbsL m).vs rfl rfl rfl rfl (by kernel_rfl) (by kernel_rfl) (by kernel_rfl) (by kernel_rfl) (by kernel_rfl) (by kernel_rfl) (by kernel_rfl) (by kernel_rfl) (by kernel_rfl) (by kernel_rfl) rfl rfl rfl rfl rfl rfl rfl rfl (by decide) Tryz.zeroValue147 rfl rfl rfl rfl (by simp) (by simp) (fun p q => rfl) (fun p q => rfl) rfl rfl Tryz.arr147 Tryz.arr147 (L5.vs_one _) (L5.vs_one _) (fun p q w1 hpq hp hq hb1 hb2 he => ?_))
 simp only [nm]
 have H3 := xb H3 he
 have HE := xt HE he
 have HX := jh hb1
 have HY := jh hb2
 have h3A := H3.out.lt
 have h3p : A + 1 + 1 < w0.heap.size := H30
 have hpA : A + 1 + 1 < p := by omega
 have hqA : A + 1 + 1 < q := by omega
 clear hb1 hb2 he h3A h3p hp hq
 obtain ⟨lx, hlx⟩ : ∃ x, x = limbsL l := ⟨_, rfl⟩
 obtain ⟨ly, hly⟩ : ∃ x, x = limbsL m := ⟨_, rfl⟩
 rw [← hlx] at HX
 rw [← hly] at HY
 have HLX : Hid (lx.lt 2251799813685267) := jh (by rw [hlx]; exact limbsL_lt2 l)
 have HLY : Hid (ly.lt 2251799813685267) := jh (by rw [hly]; exact limbsL_lt2 m)
 have HVX : Hid (Cong (lx.val : Nat) (leN l : Nat)) := jh (by rw [hlx]; exact zdz l HLl.out)
 have HVY : Hid (Cong (ly.val : Nat) (leN m : Nat)) := jh (by rw [hly]; exact zdz m HLm.out)
 obtain ⟨xs, hxs⟩ : ∃ xs, xs = [lx.a, lx.b, lx.c, lx.d, lx.e] := ⟨_, rfl⟩
 obtain ⟨ys, hys⟩ : ∃ ys, ys = [ly.a, ly.b, ly.c, ly.d, ly.e] := ⟨_, rfl⟩
 have HXL : Hid (xs.length = 5) := jh (by rw [hxs]; rfl)
 have HYL : Hid (ys.length = 5) := jh (by rw [hys]; rfl)
 have HXB : Hid (∀ i, xs.getD i 0 < 2251799813685267) := jh (by rw [hxs]; exact getD_all5 HLX.out (by omega))
 have HYB : Hid (∀ i, ys.getD i 0 < 2251799813685267) := jh (by rw [hys]; exact getD_all5 HLY.out (by omega))
 have HX : Hid (Blk w1 p (nats xs) 147) := jh (by rw [hxs]; exact HX.out)
 have HY : Hid (Blk w1 q (nats ys) 147) := jh (by rw [hys]; exact HY.out)
 have HXS := jh hxs
 have HYS := jh hys
 clear hlx hly hxs hys
 go_wp2_with fail
 obtain ⟨wo, rfl⟩ : ∃ wo : World, wo = w1 := ⟨_, rfl⟩
 go_loopw [12] (fun i wr => ∃ (k : Nat) (zs : List Nat), k ≤ 5 ∧ i = .int .i64 k ∧ SumL xs ys zs k ∧ Blk wr p (nats zs) 147 ∧ Blk wr q (nats ys) 147 ∧ Blk wr (A + 1 + 1) zero32 23 ∧ Ext w wr) (fun i _ => 5 - (intOf i).toNat)
 case atStart => exact ⟨0, xs, by omega, rfl, ⟨HXL.out, fun i hi => by omega, fun i _ => rfl⟩, HX.out, HY.out, H3.out, HE.out⟩
 case round =>
  clear HX HY H3 HE
  obtain ⟨k, zs, hk, rfl, hs, hb1, hb2, hb3, hbe⟩ := hrel
  have i0' : (0 : Int) ≤ (k : Int) := Int.natCast_nonneg _
  have hl5 := hs.len
  by_cases hlt : k < 5
  ·have i1 : (k : Int) < 5 := by omega
   have e1 := hb1.cell k
   rw [nats_get (by omega), hs.high k (q102 _)] at e1
   have e2 := hb2.cell k
   rw [nats_get (by have := HYL.out; omega)] at e2
   have f1 := hb1.free k
   have b1 := HXB.out k
   have b2 := HYB.out k
   have hst := hs.step hlt
   generalize xs.getD k 0 = a at *
   generalize ys.getD k 0 = b at *
   have W1 : Hid (((a : Int) + (b : Int)) = ((a + b : Nat) : Int)) := jh (by omega)
   have W2 : IntKind.u64.wrap ((a : Int) + (b : Int)) = (a : Int) + (b : Int) := by rw [IntKind.wrap_u64]; omega
   have HST := jh hst
   have HB1 := jh hb1
   have HB2 := jh hb2
   have HB3 := jh hb3
   have HBE := jh hbe
   clear hs hst hb1 hb2 hb3 hbe hl5 b1 b2
   go_wp2_with fail
   go_region
   go_wp2_with fail
   go_roundw
   case rel =>
    rw [W1.out]
    refine ⟨k + 1, _, by omega, by go_num, HST.out, ?_, HB2.out.far (by simpa using hpq) _, HB3.out.far (by simp; omega) _, (Below.setCell HBE.out (by simp; omega) _).drew⟩
    rw [← nats_set]
    exact HB1.out.set k _
   case measure => simp [intOf]; omega
  ·have hk' : k = 5 := by omega
   subst hk'
   obtain ⟨z, hz, hzlt, hzv⟩ := sum_done HXS.out HYS.out HLX.out HLY.out hs
   subst hz
   have HN := jh (zcz z hzlt)
   have HV : Hid (numP (z.val : Nat) = numP ((leN l : Int) + leN m)) := jh (numP_cong (by rw [hzv, Int.natCast_add]; exact HVX.out.add HVY.out))
   have HB1 := jh hb1
   have HB3 := jh hb3
   have HBE := jh hbe
   clear hb1 hb2 hb3 hbe hs hl5
   go_wp2_with (refine zbh rfl _ _ rfl p rfl _ z.vs _ _ HB1.out q104 Tryz.arr147 ?_)
   refine (HN.out _).mono ?_
   rintro e w2 ⟨rfl, hb⟩
   have HB3 := xb HB3 hb
   have HBE := jh (HBE.out.trans hb)
   clear hb
   rw [HV.out]
   go_wp2_with (refine ssb (A + 1 + 1) ((nb ((leN l : Int) + leN m)).map bval) HB3.out (nb_len _) (zcs _) (zaf _) ?_; intro w5 hb5 hg5)
   exact bodyPost_ret (v := numP ((leN l : Int) + leN m)) (zap (by rfl) _ (A + 1 + 1) _ _ _ (by rfl) hb5 q100 rfl (zcs _)) rfl ⟨rfl, zab HBE.out hg5 (by omega)⟩
theorem Sub_num (l m : List UInt8) (w : World) (hl : l.length = 32) (hm : m.length = 32) :
  Calls Tryz.prog 87 #[.agg (l.map bval).toArray, .agg (m.map bval).toArray] w fun e w' => e = .returned (numP ((leN l : Int) - leN m)) ∧ Below w.heap.size w w' := by
 have HLl := jh hl
 have HLm := jh hm
 have HIl : Hid ((Tryz.prog.info? 23).map (·.size) = some (l.map bval).length) := jh (by rw [q101, hl]; exact Tryz.arr23)
 have HIm : Hid ((Tryz.prog.info? 23).map (·.size) = some (m.map bval).length) := jh (by rw [q101, hm]; exact Tryz.arr23)
 have HB := jh (boxes3 w (l.map bval) (m.map bval) zero32 23 23 23)
 clear hl hm
 go_enter Tryz.func87, Tryz.ntmps87
 go_wp2_with fail
 change Code.wp _ _ _ _ (((w.alloc (.cells (l.map bval).toArray 23)).alloc (.cells (m.map bval).toArray 23)).alloc (.cells zero32.toArray 23))
 generalize ((w.alloc (.cells (l.map bval).toArray 23)).alloc (.cells (m.map bval).toArray 23)).alloc (.cells zero32.toArray 23) = w0 at *
 obtain ⟨h1, h2, h3, h4⟩ := HB.out
 obtain ⟨A, hA⟩ : ∃ A, A = w.heap.size := ⟨_, rfl⟩
 rw [← hA] at h1 h2 h3 ⊢
 have hA2 : w.heap.size ≤ A := by omega
 have H1 := jh h1
 have H2 := jh h2
 have H3 := jh h3
 have HE : Hid (Ext w w0) := jh h4
 clear h1 h2 h3 h4 HB hA
 have H30 := H3.out.lt
 refine swf 4 4 6 ?_
 refine zax _ _ A (l.map bval) _ (by rfl) rfl rfl (fun w hw => zaq H1.out hw) q100 rfl HIl.out ?_
 simp only [nm]
 refine sdc [.agg (l.map bval).toArray] ((limbsL l).v) Tryz.call112 (fun w hw => zdl l HLl.out w) ?_
 simp only [nm]
 refine zax _ _ (A + 1) (m.map bval) _ (by rfl) rfl rfl (fun w hw => zaq H2.out hw) q100 rfl HIm.out ?_
 simp only [nm]
 refine sdc [.agg (m.map bval).toArray] ((limbsL m).v) Tryz.call112 (fun w hw => zdl m HLm.out w) ?_
 simp only [nm]
 refine zao (end_var2 (k := 4) _ 5 6 (.tmp 10) (.tmp 12) zero5 (limbsL l).vs (limbsL m).vs rfl rfl rfl rfl (by kernel_rfl) (by kernel_rfl) (by kernel_rfl) (by kernel_rfl) (by kernel_rfl) (by kernel_rfl) (by kernel_rfl) (by kernel_rfl) (by kernel_rfl) (by kernel_rfl) rfl rfl rfl rfl rfl rfl rfl rfl (by decide) Tryz.zeroValue147 rfl rfl rfl rfl (by simp) (by simp) (fun p q => rfl) (fun p q => rfl) rfl rfl Tryz.arr147 Tryz.arr147 (L5.vs_one _) (L5.vs_one _) (fun p q w1 hpq hp hq hb1 hb2 he => ?_))
 simp only [nm]
 have H3 := xb H3 he
 have HE := xt HE he
 have HX := jh hb1
 have HY := jh hb2
 have h3A := H3.out.lt
 have h3p : A + 1 + 1 < w0.heap.size := H30
 have hpA : A + 1 + 1 < p := by omega
 have hqA : A + 1 + 1 < q := by omega
 clear hb1 hb2 he h3A h3p hp hq
 obtain ⟨lx, hlx⟩ : ∃ x, x = limbsL l := ⟨_, rfl⟩
 obtain ⟨ly, hly⟩ : ∃ x, x = limbsL m := ⟨_, rfl⟩
 rw [← hlx] at HX
 rw [← hly] at HY
 have HLX : Hid (lx.lt 2251799813685267) := jh (by rw [hlx]; exact limbsL_lt2 l)
 have HLY : Hid (ly.lt 2251799813685267) := jh (by rw [hly]; exact limbsL_lt2 m)
 have HVX : Hid (Cong (lx.val : Nat) (leN l : Nat)) := jh (by rw [hlx]; exact zdz l HLl.out)
 have HVY : Hid (Cong (ly.val : Nat) (leN m : Nat)) := jh (by rw [hly]; exact zdz m HLm.out)
 obtain ⟨xs, hxs⟩ : ∃ xs, xs = [lx.a, lx.b, lx.c, lx.d, lx.e] := ⟨_, rfl⟩
 obtain ⟨ys, hys⟩ : ∃ ys, ys = [ly.a, ly.b, ly.c, ly.d, ly.e] := ⟨_, rfl⟩
 have HXL : Hid (xs.length = 5) := jh (by rw [hxs]; rfl)
 have HYL : Hid (ys.length = 5) := jh (by rw [hys]; rfl)
 have HXB : Hid (∀ i, xs.getD i 0 < 2251799813685267) := jh (by rw [hxs]; exact getD_all5 HLX.out (by omega))
 have HYB : Hid (∀ i, ys.getD i 0 < 2251799813685267) := jh (by rw [hys]; exact getD_all5 HLY.out (by omega))
 have HX : Hid (Blk w1 p (nats xs) 147) := jh (by rw [hxs]; exact HX.out)
 have HY : Hid (Blk w1 q (nats ys) 147) := jh (by rw [hys]; exact HY.out)
 have HXS := jh hxs
 have HYS := jh hys
 clear hlx hly hxs hys
 go_wp2_with fail
 have HT0 := jh (Blk.made w1 twiceL.vs 147)
 have HA0 := jh (Ext.alloc w1 (.cells twiceL.vs.toArray 147))
 obtain ⟨R, hR⟩ : ∃ R, R = w1.heap.size := ⟨_, rfl⟩
 have hpR : p < R := by have := HX.out.lt; omega
 have hqR : q < R := by have := HY.out.lt; omega
 have hRA : A + 1 + 1 < R := by omega
 change Code.wp _ _ _ _ (w1.alloc (.cells twiceL.vs.toArray 147))
 rw [← hR] at HT0 ⊢
 have HX := xb HX HA0.out
 have HY := xb HY HA0.out
 have H3 := xb H3 HA0.out
 have HE := xt HE HA0.out
 generalize w1.alloc (.cells twiceL.vs.toArray 147) = w2 at *
 clear hR HA0
 have HT : Hid (Blk w2 R (nats twiceN) 147) := HT0
 clear HT0
 obtain ⟨wo, rfl⟩ : ∃ wo : World, wo = w2 := ⟨_, rfl⟩
 go_loopw [14] (fun i wr => ∃ (k : Nat) (zs : List Nat), k ≤ 5 ∧ i = .int .i64 k ∧ DifL xs ys zs k ∧ Blk wr p (nats zs) 147 ∧ Blk wr q (nats ys) 147 ∧ Blk wr R (nats twiceN) 147 ∧ Blk wr (A + 1 + 1) zero32 23 ∧ Ext w wr) (fun i _ => 5 - (intOf i).toNat)
 case atStart => exact ⟨0, xs, by omega, rfl, ⟨HXL.out, fun i hi => by omega, fun i _ => rfl⟩, HX.out, HY.out, HT.out, H3.out, HE.out⟩
 case round =>
  clear HX HY H3 HE HT
  obtain ⟨k, zs, hk, rfl, hs, hb1, hb2, hbt, hb3, hbe⟩ := hrel
  have i0' : (0 : Int) ≤ (k : Int) := Int.natCast_nonneg _
  have hl5 := hs.len
  by_cases hlt : k < 5
  ·have i1 : (k : Int) < 5 := by omega
   have e1 := hb1.cell k
   rw [nats_get (by omega), hs.high k (q102 _)] at e1
   have e2 := hb2.cell k
   rw [nats_get (by have := HYL.out; omega)] at e2
   have e3 := hbt.cell k
   rw [nats_get (by simpa [twiceN] using hlt)] at e3
   have f1 := hb1.free k
   have b1 := HXB.out k
   have b2 := HYB.out k
   have b3 := twice_bounds k hlt
   have hst := hs.step hlt
   generalize xs.getD k 0 = a at *
   generalize ys.getD k 0 = b at *
   generalize twiceN.getD k 0 = c at *
   obtain ⟨b31, b32⟩ := b3
   have W1 : Hid (((a : Int) + ((c : Int) - (b : Int))) = ((a + (c - b) : Nat) : Int)) := jh (by omega)
   have W2 : IntKind.u64.wrap ((c : Int) - (b : Int)) = (c : Int) - (b : Int) := by rw [IntKind.wrap_u64]; omega
   have W3 : IntKind.u64.wrap ((a : Int) + ((c : Int) - (b : Int))) = (a : Int) + ((c : Int) - (b : Int)) := by rw [IntKind.wrap_u64]; omega
   have HST := jh hst
   have HB1 := jh hb1
   have HB2 := jh hb2
   have HB3 := jh hb3
   have HBT := jh hbt
   have HBE := jh hbe
   clear hs hst hb1 hb2 hb3 hbt hbe hl5 b1 b2 b31 b32
   go_wp2_with fail
   go_region
   go_wp2_with fail
   go_roundw
   case rel =>
    rw [W1.out]
    refine ⟨k + 1, _, by omega, by go_num, HST.out, ?_, HB2.out.far (by simpa using hpq) _, HBT.out.far (by simp; omega) _, HB3.out.far (by simp; omega) _, (Below.setCell HBE.out (by simp; omega) _).drew⟩
    rw [← nats_set]
    exact HB1.out.set k _
   case measure => simp [intOf]; omega
  ·have hk' : k = 5 := by omega
   subst hk'
   obtain ⟨z, hz, hzlt, hzv⟩ := dif_done HXS.out HYS.out HLX.out HLY.out hs
   subst hz
   have HN := jh (zcz z hzlt)
   have HV : Hid (numP (z.val : Nat) = numP ((leN l : Int) - leN m)) := jh (numP_cong (hzv.trans (HVX.out.sub HVY.out)))
   have HB1 := jh hb1
   have HB3 := jh hb3
   have HBE := jh hbe
   clear hb1 hb2 hb3 hbt hbe hs hl5
   go_wp2_with (refine zbh rfl _ _ rfl p rfl _ z.vs _ _ HB1.out q104 Tryz.arr147 ?_)
   refine (HN.out _).mono ?_
   rintro e w2 ⟨rfl, hb⟩
   have HB3 := xb HB3 hb
   have HBE := jh (HBE.out.trans hb)
   clear hb
   rw [HV.out]
   go_wp2_with (refine ssb (A + 1 + 1) ((nb ((leN l : Int) - leN m)).map bval) HB3.out (nb_len _) (zcs _) (zaf _) ?_; intro w5 hb5 hg5)
   exact bodyPost_ret (v := numP ((leN l : Int) - leN m)) (zap (by rfl) _ (A + 1 + 1) _ _ _ (by rfl) hb5 q100 rfl (zcs _)) rfl ⟨rfl, zab HBE.out hg5 (by omega)⟩
def rootL : L5 := ⟨1718705420411056, 234908883556509, 2233514472574048, 2117202627021982, 765476049583133⟩
theorem rootL_lt : rootL.lt 18014398509481984 := by unfold L5.lt; decide
theorem rootL_val : ((rootL.val : Nat) : Int) = sm1 := by decide +kernel
theorem rootOf_any (w : World) : Calls Tryz.prog 117 #[] w fun e w' => e = .returned rootL.v ∧ Below w.heap.size w w' := by
 have HB := jh (Blk.made w zero5 147)
 have HE := jh (Ext.alloc w (.cells zero5.toArray 147))
 go_enter Tryz.func117, Tryz.ntmps117
 go_wp2_with (refine ssb w.heap.size rootL.vs HB.out rfl Tryz.arr147 rootL.vs_one ?_; intro w5 hb5 hg5)
 exact bodyPost_ret (v := rootL.v) (zap (by rfl) _ w.heap.size _ _ _ (by rfl) hb5 q104 rfl Tryz.arr147) rfl ⟨rfl, zab HE.out hg5 (q102 _)⟩
theorem xor8 (a b : Nat) (ha : a < 256) (hb : b < 256) : bits .xor .u8 (a : Int) (b : Int) = ((a ^^^ b : Nat) : Int) := by
 have e1 : (BitVec.ofInt 8 (a : Int)).toNat = a := by rw [BitVec.toNat_ofInt]; omega
 have e2 : (BitVec.ofInt 8 (b : Int)).toNat = b := by rw [BitVec.toNat_ofInt]; omega
 show IntKind.u8.wrap ((BitVec.ofInt 8 (a : Int) ^^^ BitVec.ofInt 8 (b : Int)).toNat : Nat) = _
 have e3 := (BitVec.ofInt 8 (a : Int) ^^^ BitVec.ofInt 8 (b : Int)).isLt
 rw [BitVec.toNat_xor, e1, e2] at e3 ⊢
 rw [IntKind.wrap_u8]
 omega
theorem and255 (x : Nat) (hx : x < 256) : bits .and .u8 255 (x : Int) = (x : Int) := by
 have e1 : (BitVec.ofInt 8 (255 : Int)).toNat = 255 := by decide
 have e2 : (BitVec.ofInt 8 (x : Int)).toNat = x := by rw [BitVec.toNat_ofInt]; omega
 show IntKind.u8.wrap ((BitVec.ofInt 8 (255 : Int) &&& BitVec.ofInt 8 (x : Int)).toNat : Nat) = _
 have e : x &&& 255 = x % 256 := q145 x 8
 rw [BitVec.toNat_and, e1, e2, Nat.and_comm, e, IntKind.wrap_u8]
 omega
theorem and0 (x : Nat) (hx : x < 256) : bits .and .u8 0 (x : Int) = 0 := by
 have e1 : (BitVec.ofInt 8 (0 : Int)).toNat = 0 := by decide
 show IntKind.u8.wrap ((BitVec.ofInt 8 (0 : Int) &&& BitVec.ofInt 8 (x : Int)).toNat : Nat) = _
 rw [BitVec.toNat_and, e1, Nat.zero_and]
 rfl
theorem xor0 (a : Nat) (ha : a < 256) : bits .xor .u8 (a : Int) 0 = (a : Int) := by
 have := xor8 a 0 ha (by omega)
 rwa [Nat.xor_zero] at this
structure PickL (l s zs : List UInt8) (k : Nat) : Prop where
 len : zs.length = 32
 low : ∀ i, i < k → zs.getD i 0 = s.getD i 0
 high : ∀ i, k ≤ i → zs.getD i 0 = l.getD i 0
theorem PickL.step {l s zs : List UInt8} {k : Nat} (h : PickL l s zs k) (hk : k < 32) : PickL l s (zs.set k (s.getD k 0)) (k + 1) := by
 obtain ⟨h1, h2, h3⟩ := h
 refine ⟨by simp [h1], fun i hi => ?_, fun i hi => ?_⟩
 ·by_cases e : i = k
  ·subst e
   simp [List.getD, show i < zs.length from by omega]
  ·have := h2 i (by omega)
   simpa [List.getD, List.getElem?_set_ne (Ne.symm e)] using this
 ·have := h3 i (by omega)
  simpa [List.getD, List.getElem?_set_ne (show k ≠ i from by omega)] using this
theorem PickL.done {l s zs : List UInt8} (h : PickL l s zs 32) (hs : s.length = 32) : zs = s := by
 apply List.ext_getElem (by have := h.len; omega)
 intro i hi hi2
 have := h.low i (by omega)
 simpa [List.getD, hi, hi2] using this
theorem Pick_false (l m : List UInt8) (w : World) (hl : l.length = 32) (hm : m.length = 32) :
  Calls Tryz.prog 88 #[.agg (l.map bval).toArray, .agg (m.map bval).toArray, .bool false] w fun e w' => e = .returned (.agg (l.map bval).toArray) ∧ Below w.heap.size w w' := by
 have HLl := jh hl
 have HLm := jh hm
 have HIl : Hid ((Tryz.prog.info? 23).map (·.size) = some (l.map bval).length) := jh (by rw [q101, hl]; exact Tryz.arr23)
 have HIm : Hid ((Tryz.prog.info? 23).map (·.size) = some (m.map bval).length) := jh (by rw [q101, hm]; exact Tryz.arr23)
 have HB := jh (boxes3 w (l.map bval) (m.map bval) zero32 23 23 23)
 clear hl hm
 go_enter Tryz.func88, Tryz.ntmps88
 go_wp2_with fail
 change Code.wp _ _ _ _ (((w.alloc (.cells (l.map bval).toArray 23)).alloc (.cells (m.map bval).toArray 23)).alloc (.cells zero32.toArray 23))
 generalize ((w.alloc (.cells (l.map bval).toArray 23)).alloc (.cells (m.map bval).toArray 23)).alloc (.cells zero32.toArray 23) = w0 at *
 obtain ⟨h1, h2, h3, h4⟩ := HB.out
 obtain ⟨A, hA⟩ : ∃ A, A = w.heap.size := ⟨_, rfl⟩
 rw [← hA] at h1 h2 h3 ⊢
 have hA2 : w.heap.size ≤ A := by omega
 have H1 := jh h1
 have H2 := jh h2
 have H3 := jh h3
 have HE : Hid (Ext w w0) := jh h4
 clear h1 h2 h3 h4 HB hA
 obtain ⟨wo, rfl⟩ : ∃ wo : World, wo = w0 := ⟨_, rfl⟩
 go_loopw [10] (fun i wr => ∃ (k : Nat) (zs : List UInt8), k ≤ 32 ∧ i = .int .i64 k ∧ PickL l l zs k ∧ Blk wr A (zs.map bval) 23 ∧ Blk wr (A + 1) (m.map bval) 23 ∧ Blk wr (A + 1 + 1) zero32 23 ∧ Ext w wr) (fun i _ => 32 - (intOf i).toNat)
 case atStart => exact ⟨0, l, by omega, rfl, ⟨HLl.out, fun i hi => by omega, fun i _ => rfl⟩, H1.out, H2.out, H3.out, HE.out⟩
 case round =>
  clear H1 H2 H3 HE
  obtain ⟨k, zs, hk, rfl, hs, hb1, hb2, hb3, hbe⟩ := hrel
  have i0' : (0 : Int) ≤ (k : Int) := Int.natCast_nonneg _
  have hl5 := hs.len
  by_cases hlt : k < 32
  ·have i1 : (k : Int) < 32 := by omega
   have e1 := hb1.cell k
   rw [zbg (by omega), hs.high k (q102 _)] at e1
   have e2 := hb2.cell k
   rw [zbg (by have := HLm.out; omega)] at e2
   have f1 := hb1.free k
   have b1 := (l.getD k 0).toNat_lt
   have b2 := (m.getD k 0).toNat_lt
   have hst := hs.step hlt
   have hv : bval (l.getD k 0) = .int .u8 ((l.getD k 0).toNat : Int) := rfl
   have HBV := jh hv
   clear hv
   generalize hga : (l.getD k 0).toNat = a at *
   generalize hgb : (m.getD k 0).toNat = b at *
   have q1 : bits .xor .u8 (a : Int) (b : Int) = ((a ^^^ b : Nat) : Int) := xor8 a b b1 b2
   have q2 : bits .and .u8 0 ((a ^^^ b : Nat) : Int) = 0 := and0 _ (Nat.xor_lt_two_pow (n := 8) b1 b2)
   have q3 : bits .xor .u8 (a : Int) 0 = (a : Int) := xor0 a b1
   generalize a ^^^ b = x at *
   have HST := jh hst
   have HB1 := jh hb1
   have HB2 := jh hb2
   have HB3 := jh hb3
   have HBE := jh hbe
   clear hs hst hb1 hb2 hb3 hbe hl5 b1 b2 hga hgb
   go_wp2_with fail
   go_region
   go_wp2_with fail
   go_roundw
   case rel =>
    refine ⟨k + 1, _, by omega, by go_num, HST.out, ?_, HB2.out.far (by simp) _, HB3.out.far (by simp; omega) _, (Below.setCell HBE.out (by simp; omega) _).drew⟩
    rw [q127, HBV.out]
    exact HB1.out.set k _
   case measure => simp [intOf]; omega
  ·have hk' : k = 32 := by omega
   subst hk'
   have hd := hs.done HLl.out
   rw [hd] at hb1
   have HB1 := jh hb1
   have HB3 := jh hb3
   have HBE := jh hbe
   clear hb1 hb2 hb3 hbe hs hl5
   go_wp2_with (first | (refine slb A HB1.out q100 HIl.out ?_) | (refine ssb (A + 1 + 1) (l.map bval) HB3.out (by rw [q101, HLl.out]; rfl) HIl.out (zaf _) ?_; intro w5 hb5 hg5))
   exact bodyPost_ret (v := .agg (l.map bval).toArray) (zap (by rfl) _ (A + 1 + 1) _ _ _ (by rfl) hb5 q100 rfl HIl.out) rfl ⟨rfl, zab HBE.out hg5 (by omega)⟩
theorem Pick_true (l m : List UInt8) (w : World) (hl : l.length = 32) (hm : m.length = 32) :
  Calls Tryz.prog 88 #[.agg (l.map bval).toArray, .agg (m.map bval).toArray, .bool true] w fun e w' => e = .returned (.agg (m.map bval).toArray) ∧ Below w.heap.size w w' := by
 have HLl := jh hl
 have HLm := jh hm
 have HIl : Hid ((Tryz.prog.info? 23).map (·.size) = some (l.map bval).length) := jh (by rw [q101, hl]; exact Tryz.arr23)
 have HIm : Hid ((Tryz.prog.info? 23).map (·.size) = some (m.map bval).length) := jh (by rw [q101, hm]; exact Tryz.arr23)
 have HB := jh (boxes3 w (l.map bval) (m.map bval) zero32 23 23 23)
 clear hl hm
 go_enter Tryz.func88, Tryz.ntmps88
 go_wp2_with fail
 change Code.wp _ _ _ _ (((w.alloc (.cells (l.map bval).toArray 23)).alloc (.cells (m.map bval).toArray 23)).alloc (.cells zero32.toArray 23))
 generalize ((w.alloc (.cells (l.map bval).toArray 23)).alloc (.cells (m.map bval).toArray 23)).alloc (.cells zero32.toArray 23) = w0 at *
 obtain ⟨h1, h2, h3, h4⟩ := HB.out
 obtain ⟨A, hA⟩ : ∃ A, A = w.heap.size := ⟨_, rfl⟩
 rw [← hA] at h1 h2 h3 ⊢
 have hA2 : w.heap.size ≤ A := by omega
 have H1 := jh h1
 have H2 := jh h2
 have H3 := jh h3
 have HE : Hid (Ext w w0) := jh h4
 clear h1 h2 h3 h4 HB hA
 obtain ⟨wo, rfl⟩ : ∃ wo : World, wo = w0 := ⟨_, rfl⟩
 go_loopw [10] (fun i wr => ∃ (k : Nat) (zs : List UInt8), k ≤ 32 ∧ i = .int .i64 k ∧ PickL l m zs k ∧ Blk wr A (zs.map bval) 23 ∧ Blk wr (A + 1) (m.map bval) 23 ∧ Blk wr (A + 1 + 1) zero32 23 ∧ Ext w wr) (fun i _ => 32 - (intOf i).toNat)
 case atStart => exact ⟨0, l, by omega, rfl, ⟨HLl.out, fun i hi => by omega, fun i _ => rfl⟩, H1.out, H2.out, H3.out, HE.out⟩
 case round =>
  clear H1 H2 H3 HE
  obtain ⟨k, zs, hk, rfl, hs, hb1, hb2, hb3, hbe⟩ := hrel
  have i0' : (0 : Int) ≤ (k : Int) := Int.natCast_nonneg _
  have hl5 := hs.len
  by_cases hlt : k < 32
  ·have i1 : (k : Int) < 32 := by omega
   have e1 := hb1.cell k
   rw [zbg (by omega), hs.high k (q102 _)] at e1
   have e2 := hb2.cell k
   rw [zbg (by have := HLm.out; omega)] at e2
   have f1 := hb1.free k
   have b1 := (l.getD k 0).toNat_lt
   have b2 := (m.getD k 0).toNat_lt
   have hst := hs.step hlt
   have hv : bval (m.getD k 0) = .int .u8 ((m.getD k 0).toNat : Int) := rfl
   have HBV := jh hv
   clear hv
   generalize hga : (l.getD k 0).toNat = a at *
   generalize hgb : (m.getD k 0).toNat = b at *
   have q0 : IntKind.u8.wrap (-1) = 255 := by rfl
   have q1 : bits .xor .u8 (a : Int) (b : Int) = ((a ^^^ b : Nat) : Int) := xor8 a b b1 b2
   have q2 : bits .and .u8 255 ((a ^^^ b : Nat) : Int) = ((a ^^^ b : Nat) : Int) := and255 _ (Nat.xor_lt_two_pow (n := 8) b1 b2)
   have q3 : bits .xor .u8 (a : Int) ((a ^^^ b : Nat) : Int) = (b : Int) := by
    rw [xor8 a _ b1 (Nat.xor_lt_two_pow (n := 8) b1 b2), ← Nat.xor_assoc, Nat.xor_self, Nat.zero_xor]
   generalize a ^^^ b = x at *
   have HST := jh hst
   have HB1 := jh hb1
   have HB2 := jh hb2
   have HB3 := jh hb3
   have HBE := jh hbe
   clear hs hst hb1 hb2 hb3 hbe hl5 b1 b2 hga hgb
   go_wp2_with fail
   go_region
   go_wp2_with fail
   go_roundw
   case rel =>
    refine ⟨k + 1, _, by omega, by go_num, HST.out, ?_, HB2.out.far (by simp) _, HB3.out.far (by simp; omega) _, (Below.setCell HBE.out (by simp; omega) _).drew⟩
    rw [q127, HBV.out]
    exact HB1.out.set k _
   case measure => simp [intOf]; omega
  ·have hk' : k = 32 := by omega
   subst hk'
   have hd := hs.done HLm.out
   rw [hd] at hb1
   have HB1 := jh hb1
   have HB3 := jh hb3
   have HBE := jh hbe
   clear hb1 hb2 hb3 hbe hs hl5
   go_wp2_with (first | (refine slb A HB1.out q100 HIm.out ?_) | (refine ssb (A + 1 + 1) (m.map bval) HB3.out (by rw [q101, HLm.out]; rfl) HIm.out (zaf _) ?_; intro w5 hb5 hg5))
   exact bodyPost_ret (v := .agg (m.map bval).toArray) (zap (by rfl) _ (A + 1 + 1) _ _ _ (by rfl) hb5 q100 rfl HIm.out) rfl ⟨rfl, zab HBE.out hg5 (by omega)⟩
theorem Pick_num (l m : List UInt8) (s : Bool) (w : World) (hl : l.length = 32) (hm : m.length = 32) :
  Calls Tryz.prog 88 #[.agg (l.map bval).toArray, .agg (m.map bval).toArray, .bool s] w fun e w' => e = .returned (.agg ((if s then m else l).map bval).toArray) ∧ Below w.heap.size w w' := by
 cases s with
 | false => exact Pick_false l m w hl hm
 | true => exact Pick_true l m w hl hm
theorem vs_len (x y : L5) : x.vs.length = y.vs.length := rfl
theorem Root_num (l : List UInt8) (w : World) (hl : l.length = 32) :
  Calls Tryz.prog 86 #[.agg (l.map bval).toArray] w fun e w' => e = .returned (.tuple #[.agg ((rootN ((leN l : Nat) : Int)).map bval).toArray, .bool (rootB ((leN l : Nat) : Int))]) ∧ Below w.heap.size w w' := by
 obtain ⟨C, hC⟩ : ∃ c, c = ((leN l : Nat) : Int) ^ pE := ⟨_, rfl⟩
 obtain ⟨R, hRD⟩ : ∃ r, r = rootR ((leN l : Nat) : Int) := ⟨_, rfl⟩
 have HRT : Hid (nb (C * C) = nb ((leN l : Nat) : Int) → R = C) := jh (fun h => by rw [hRD, hC]; rw [hC] at h; exact if_pos h)
 have HRF : Hid (¬ nb (C * C) = nb ((leN l : Nat) : Int) → R = C * sm1) := jh (fun h => by rw [hRD, hC]; rw [hC] at h; exact if_neg h)
 have HC := jh hC
 have HRD := jh hRD
 clear hC hRD
 have HLl := jh hl
 have HIl : Hid ((Tryz.prog.info? 23).map (·.size) = some (l.map bval).length) := jh (by rw [q101, hl]; exact Tryz.arr23)
 have HB := jh (boxes2 w (l.map bval) zero32 23 23)
 clear hl
 go_enter Tryz.func86, Tryz.ntmps86
 go_wp2_with (refine slb w.heap.size HB.out.1 q100 HIl.out ?_)
 change Calls _ _ _ ((w.alloc (.cells (l.map bval).toArray 23)).alloc (.cells zero32.toArray 23)) _
 generalize (w.alloc (.cells (l.map bval).toArray 23)).alloc (.cells zero32.toArray 23) = w0 at *
 obtain ⟨h1, h2, h4⟩ := HB.out
 obtain ⟨A, hA⟩ : ∃ A, A = w.heap.size := ⟨_, rfl⟩
 rw [← hA] at h1 h2 ⊢
 have hA2 : w.heap.size ≤ A := by omega
 have H1 := jh h1
 have HR := jh h2
 have HE : Hid (Ext w w0) := jh h4
 clear h1 h2 h4 HB hA
 refine (zdl l HLl.out _).mono ?_
 rintro e w1 ⟨rfl, hb⟩
 have HR := xb HR hb
 have HE := xt HE hb
 clear hb
 obtain ⟨v1, hv⟩ : ∃ v, v = limbsL l := ⟨_, rfl⟩
 rw [← hv]
 have LT1 : Hid (v1.lt 18014398509481984) := jh (by rw [hv]; exact limbsL_lt l)
 have CV1 : Hid (Cong (v1.val : Nat) ((leN l : Nat) : Int)) := jh (by rw [hv]; exact zdz l HLl.out)
 clear hv
 obtain ⟨p1, hp⟩ : ∃ p, p = w1.heap.size := ⟨_, rfl⟩
 have HV1 := jh (Blk.made w1 v1.vs 147)
 have HRW1 := HR.out.lt
 have HX1 := jh (Ext.alloc w1 (.cells v1.vs.toArray 147))
 have HR := xb HR HX1.out
 have HE := xt HE HX1.out
 have hAp1 : A + 1 < p1 := by omega
 clear HRW1
 rw [← hp] at HV1
 clear HX1
 unfold L5.v L5.vs
 go_wp2_with fail
 rw [← hp]
 change Calls _ _ #[v1.v] (w1.alloc (.cells v1.vs.toArray 147)) _
 generalize w1.alloc (.cells v1.vs.toArray 147) = y1 at *
 clear hp
 refine (zcz v1 (LT1.out.mono (by omega)) _).mono ?_
 rintro e w2 ⟨rfl, hb⟩
 have HR := xb HR hb
 have HV1 := xb HV1 hb
 have HE := xt HE hb
 clear hb
 rw [numP_cong CV1.out]
 have HQ0 := jh (Blk.made w2 zero32 23)
 have HX := jh (Ext.alloc w2 (.cells zero32.toArray 23))
 have HKR := xb HR HX.out
 have HKV := xb HV1 HX.out
 have HP1 := jh (HV1.out.lt)
 go_wp2_with (refine ssb w2.heap.size ((nb ((leN l : Nat) : Int)).map bval) HQ0.out (nb_len _) (zcs _) (zaf _) ?_; intro w3 hb3 hg3)
 obtain ⟨q, hq⟩ : ∃ q, q = w2.heap.size := ⟨_, rfl⟩
 have hpq : p1 < q := by have := HP1.out; omega
 have hqw : w.heap.size ≤ q := by omega
 rw [← hq] at hb3 hg3 ⊢
 have HR := jh (HKR.out.grown hg3 (by simp; omega))
 have HV1 := jh (HKV.out.grown hg3 (by simp; omega))
 have HE := jh (zab (HE.out.trans HX.out) hg3 hqw)
 have HQ := jh hb3
 clear hb3 hg3 hq HKR HKV HX HQ0 HP1
 go_wp2_with fail
 refine swf 6 2 7 ?_
 refine zax _ _ p1 v1.vs _ (by rfl) rfl rfl (fun w hw => zaq HV1.out hw) q104 rfl Tryz.arr147 ?_
 simp only [nm]
 refine sdc [v1.v] ((onesL v1).v) Tryz.call116 (fun w hw => ones_any v1 LT1.out w) ?_
 simp only [nm]
 refine zax _ _ p1 v1.vs _ (by rfl) rfl rfl (fun w hw => zaq HV1.out hw) q104 rfl Tryz.arr147 ?_
 simp only [nm]
 refine zax _ _ p1 v1.vs _ (by rfl) rfl rfl (fun w hw => zaq HV1.out hw) q104 rfl Tryz.arr147 ?_
 simp only [nm]
 refine sdc [v1.v, v1.v] ((timesL v1 v1).v) q148 (fun w hw => zcw v1 v1 LT1.out LT1.out w) ?_
 simp only [nm]
 refine sdc [(onesL v1).v, .int .i64 2, (timesL v1 v1).v] ((joinL (onesL v1) 2 (timesL v1 v1)).v) Tryz.call115 (fun w hw => zcu (onesL v1) 2 (timesL v1 v1) (onesL_lt LT1.out) (zcx LT1.out LT1.out) (by omega) w) ?_
 simp only [nm]
 refine zao (zep (k := 6) _ 6 (.tmp 17) zero5 (joinL (onesL v1) 2 (timesL v1 v1)).vs rfl rfl (by kernel_rfl) (by kernel_rfl) (by kernel_rfl) (by kernel_rfl) (by kernel_rfl) rfl rfl rfl rfl Tryz.zeroValue147 rfl (by simp) (fun p => rfl) rfl Tryz.arr147 (L5.vs_one _) (fun p6 w4 hp6 hb4 he4 => ?_))
 simp only [nm]
 have HRW := jh (HR.out.lt)
 have HQW := jh (HQ.out.lt)
 have HR := xb HR he4
 have HV1 := xb HV1 he4
 have HQ := xb HQ he4
 have hp6q : q < p6 := by have := HQW.out; omega
 have hp6R : A + 1 < p6 := by have := HRW.out; omega
 have HE := xt HE he4
 obtain ⟨v6, hv⟩ : ∃ v, v = joinL (onesL v1) 2 (timesL v1 v1) := ⟨_, rfl⟩
 rw [← hv] at hb4 ⊢
 have LT6 : Hid (v6.lt 18014398509481984) := jh (by rw [hv]; exact zdr 2 (onesL_lt LT1.out) (zcx LT1.out LT1.out))
 have CV6 : Hid (Cong (v6.val : Nat) C) := jh (by
  rw [hv, HC.out]
  have h2 : Cong ((timesL v1 v1).val : Nat) (((leN l : Nat) : Int) ^ 2) := by have := (zdq v1 v1).trans (CV1.out.mul CV1.out); rwa [show ((leN l : Nat) : Int) * ((leN l : Nat) : Int) = ((leN l : Nat) : Int) ^ 2 from by rw [q122, ← pow1]] at this
  have := zdg 2 (onesL_val CV1.out) h2
  rwa [show (2 ^ 250 - 1) * 2 ^ 2 + 2 = pE from by decide +kernel] at this)
 clear hv
 have HV6 := jh hb4
 clear hb4 he4 HRW HQW
 have HS1 : Hid (nb ((timesL v6 v6).val : Nat) = nb (C * C)) := jh (nb_cong ((zdq v6 v6).trans (CV6.out.mul CV6.out)))
 by_cases h1 : nb (C * C) = nb ((leN l : Nat) : Int)
 ·go_wp2_with fail
  refine zbb (by kernel_rfl) (by kernel_rfl) ?_
  refine zax _ _ p6 v6.vs _ (by rfl) rfl rfl (fun w hw => zaq HV6.out hw) q104 rfl Tryz.arr147 ?_
  simp only [nm]
  refine zax _ _ p6 v6.vs _ (by rfl) rfl rfl (fun w hw => zaq HV6.out hw) q104 rfl Tryz.arr147 ?_
  simp only [nm]
  refine sdc [v6.v, v6.v] ((timesL v6 v6).v) q148 (fun w hw => zcw v6 v6 LT6.out LT6.out w) ?_
  simp only [nm]
  refine sdc [(timesL v6 v6).v] (.agg ((nb ((timesL v6 v6).val : Nat)).map bval).toArray) Tryz.call111 (fun w hw => zcz _ ((zcx LT6.out LT6.out).mono (by omega)) w) ?_
  simp only [nm]
  refine zax _ _ q ((nb ((leN l : Nat) : Int)).map bval) _ (by rfl) rfl rfl (fun w hw => zaq HQ.out hw) q100 rfl (zcs _) ?_
  simp only [nm]
  refine det_eql _ _ _ _ _ _ 32 _ (nb ((timesL v6 v6).val : Nat)) (nb ((leN l : Nat) : Int)) false (by rfl) rfl (Or.inr ⟨rfl, decide_eq_true (by rw [HS1.out]; exact h1)⟩) q100 q111 zch zby zcb rfl rfl (zbr _) (zbr _) ?_
  simp only [nm]
  refine zao (fun w2 hw2 => ?_)
  have HR := xb HR hw2
  have HQ := xb HQ hw2
  have HV6 := xb HV6 hw2
  have HE := xt HE hw2
  clear hw2
  have hR := HRT.out h1
  have CVR : Hid (Cong (v6.val : Nat) (R)) := jh (by rw [hR]; exact CV6.out)
  have LTR := LT6
  clear hR
  clear HS1
  obtain ⟨rr, hrr⟩ : ∃ r, r = v6 := ⟨_, rfl⟩
  rw [← hrr] at HV6 CVR LTR
  clear hrr
  have HS2 : Hid (nb ((timesL rr rr).val : Nat) = nb (R * R)) := jh (nb_cong ((zdq rr rr).trans (CVR.out.mul CVR.out)))
  clear CV1 LT1 HV1
  by_cases h2 : nb (R * R) = nb ((leN l : Nat) : Int)
  ·go_wp2_with fail
   refine zbb (by kernel_rfl) (by kernel_rfl) ?_
   refine zax _ _ p6 rr.vs _ (by rfl) rfl rfl (fun w hw => zaq HV6.out hw) q104 rfl Tryz.arr147 ?_
   simp only [nm]
   refine zax _ _ p6 rr.vs _ (by rfl) rfl rfl (fun w hw => zaq HV6.out hw) q104 rfl Tryz.arr147 ?_
   simp only [nm]
   refine sdc [rr.v, rr.v] ((timesL rr rr).v) q148 (fun w hw => zcw rr rr LTR.out LTR.out w) ?_
   simp only [nm]
   refine sdc [(timesL rr rr).v] (.agg ((nb ((timesL rr rr).val : Nat)).map bval).toArray) Tryz.call111 (fun w hw => zcz _ ((zcx LTR.out LTR.out).mono (by omega)) w) ?_
   simp only [nm]
   refine zax _ _ q ((nb ((leN l : Nat) : Int)).map bval) _ (by rfl) rfl rfl (fun w hw => zaq HQ.out hw) q100 rfl (zcs _) ?_
   simp only [nm]
   refine det_eql _ _ _ _ _ _ 32 _ (nb ((timesL rr rr).val : Nat)) (nb ((leN l : Nat) : Int)) false (by rfl) rfl (Or.inr ⟨rfl, decide_eq_true (by rw [HS2.out]; exact h2)⟩) q100 q111 zch zby zcb rfl rfl (zbr _) (zbr _) ?_
   simp only [nm]
   refine zao (fun w2 hw2 => ?_)
   have HR := xb HR hw2
   have HQ := xb HQ hw2
   have HV6 := xb HV6 hw2
   have HE := xt HE hw2
   clear hw2
   have HNR := jh (zcz rr (LTR.out.mono (by omega)))
   go_wp2_with (refine slb p6 HV6.out q104 Tryz.arr147 ?_)
   refine (HNR.out _).mono ?_
   rintro e w7 ⟨rfl, hb⟩
   have HR := xb HR hb
   have HE := xt HE hb
   clear hb HNR
   rw [numP_cong CVR.out]
   have HO0 := jh (Blk.made w7 zero32 23)
   have HX := jh (Ext.alloc w7 (.cells zero32.toArray 23))
   have HKR := xb HR HX.out
   have HRW := jh (HR.out.lt)
   go_wp2_with (refine ssb w7.heap.size ((nb (R)).map bval) HO0.out (nb_len _) (zcs _) (zaf _) ?_; intro w8 hb8 hg8)
   obtain ⟨o, ho⟩ : ∃ q, q = w7.heap.size := ⟨_, rfl⟩
   have hoR : A + 1 < o := by have := HRW.out; omega
   rw [← ho] at hb8 hg8 ⊢
   have HR := jh (HKR.out.grown hg8 (by simp; omega))
   have HE := jh (zab (HE.out.trans HX.out) hg8 (by omega))
   have HO := jh hb8
   clear hb8 hg8 ho HKR HX HO0 HRW
   refine swf 9 2 9 ?_
   refine zax _ _ o ((nb (R)).map bval) _ (by rfl) rfl rfl (fun w hw => zaq HO.out hw) q100 rfl (zcs _) ?_
   simp only [nm]
   refine zaw (.agg (zer.map bval).toArray) (by rfl) (fun w hw => by unfold execOp; simp [build_zer]) ?_
   simp only [nm]
   refine zax _ _ o ((nb (R)).map bval) _ (by rfl) rfl rfl (fun w hw => zaq HO.out hw) q100 rfl (zcs _) ?_
   simp only [nm]
   refine sdc [.agg (zer.map bval).toArray, .agg ((nb (R)).map bval).toArray] (.agg ((nb (((leN zer : Nat) : Int) - ((leN (nb (R)) : Nat) : Int))).map bval).toArray) q142 (fun w hw => Sub_num zer (nb (R)) w zdx (zbr _)) ?_
   simp only [nm]
   refine sdi o 32 0 q100 (by omega) (q115) ?_
   simp only [nm]
   refine sdl o 0 (.int .u8 ((((nb (R)).getD 0 0) : UInt8).toNat : Int)) (fun w hw => ((zad HO.out hw).cell 0).trans (zbg (by rw [zbr]; omega))) (Tryz.isAgg5) ?_
   simp only [nm]
   refine zfl _ _ _ _ _ _ _ ((((nb (R)).getD 0 0).toNat % 2 : Nat) : Int) (by rfl) rfl rfl rfl (andU1 _) ?_
   simp only [nm]
   refine zaw (.bool (decide (((nb (R)).getD 0 0).toNat % 2 = 1))) (by rfl) (fun w hw => byte_odd _ rfl rfl rfl) ?_
   simp only [nm]
   refine sdc [.agg ((nb (R)).map bval).toArray, .agg ((nb (((leN zer : Nat) : Int) - ((leN (nb (R)) : Nat) : Int))).map bval).toArray, .bool (decide (((nb (R)).getD 0 0).toNat % 2 = 1))] (.agg ((if (decide (((nb (R)).getD 0 0).toNat % 2 = 1)) then (nb (((leN zer : Nat) : Int) - ((leN (nb (R)) : Nat) : Int))) else (nb (R))).map bval).toArray) Tryz.call88 (fun w hw => Pick_num (nb (R)) (nb (((leN zer : Nat) : Int) - ((leN (nb (R)) : Nat) : Int))) (decide (((nb (R)).getD 0 0).toNat % 2 = 1)) w (zbr _) (zbr _)) ?_
   simp only [nm]
   refine zao (end_set_assign (k := 9) _ _ _ _ _ 3 (.bool true) (A + 1) ((if (decide (((nb (R)).getD 0 0).toNat % 2 = 1)) then (nb (((leN zer : Nat) : Int) - ((leN (nb (R)) : Nat) : Int))) else (nb (R))).map bval) zero32 rfl rfl (by kernel_rfl) (by kernel_rfl) (by kernel_rfl) (by kernel_rfl) rfl rfl rfl rfl rfl rfl HR.out (pick_len _ _ _) (pick_size _ _ _) (zaf _) rfl rfl rfl (fun w9 hb9 hg9 => ?_))
   simp only [nm]
   rw [rootN_true2 HRD.out h2] at hb9 ⊢
   go_wp2_with fail
   exact bodyPost_ret (zai (p := 2) (u := 3) (by rfl) _ (A + 1) _ _ _ (by rfl) hb9 q100 rfl (rootN_size _)) rfl ⟨by rw [rootB_true2 HRD.out h2]; rfl, zab HE.out hg9 (by omega)⟩
  ·go_wp2_with fail
   refine zbb (by kernel_rfl) (by kernel_rfl) ?_
   refine zax _ _ p6 rr.vs _ (by rfl) rfl rfl (fun w hw => zaq HV6.out hw) q104 rfl Tryz.arr147 ?_
   simp only [nm]
   refine zax _ _ p6 rr.vs _ (by rfl) rfl rfl (fun w hw => zaq HV6.out hw) q104 rfl Tryz.arr147 ?_
   simp only [nm]
   refine sdc [rr.v, rr.v] ((timesL rr rr).v) q148 (fun w hw => zcw rr rr LTR.out LTR.out w) ?_
   simp only [nm]
   refine sdc [(timesL rr rr).v] (.agg ((nb ((timesL rr rr).val : Nat)).map bval).toArray) Tryz.call111 (fun w hw => zcz _ ((zcx LTR.out LTR.out).mono (by omega)) w) ?_
   simp only [nm]
   refine zax _ _ q ((nb ((leN l : Nat) : Int)).map bval) _ (by rfl) rfl rfl (fun w hw => zaq HQ.out hw) q100 rfl (zcs _) ?_
   simp only [nm]
   refine det_eql _ _ _ _ _ _ 32 _ (nb ((timesL rr rr).val : Nat)) (nb ((leN l : Nat) : Int)) true (by rfl) rfl (Or.inr ⟨rfl, decide_eq_false (by rw [HS2.out]; exact h2)⟩) q100 q111 zch zby zcb rfl rfl (zbr _) (zbr _) ?_
   simp only [nm]
   refine zao (fun w2 hw2 => ?_)
   have HR := xb HR hw2
   have HQ := xb HQ hw2
   have HV6 := xb HV6 hw2
   have HE := xt HE hw2
   clear hw2
   have HZ1 : Hid (zer.map bval = zero32) := jh zer_zero32
   go_wp2_with (refine ssb (A + 1) zero32 HR.out rfl Tryz.arr23 (zaj _ _) ?_; intro w5 hb5 hg5)
   rw [← HZ1.out] at hb5
   exact bodyPost_ret (zai (p := 2) (u := 3) (by rfl) _ (A + 1) _ _ _ (by rfl) hb5 q100 rfl zer_size) rfl ⟨by rw [rootN_false2 HRD.out h2, rootB_false2 HRD.out h2]; rfl, zab HE.out hg5 (by omega)⟩
 ·go_wp2_with fail
  refine zbb (by kernel_rfl) (by kernel_rfl) ?_
  refine zax _ _ p6 v6.vs _ (by rfl) rfl rfl (fun w hw => zaq HV6.out hw) q104 rfl Tryz.arr147 ?_
  simp only [nm]
  refine zax _ _ p6 v6.vs _ (by rfl) rfl rfl (fun w hw => zaq HV6.out hw) q104 rfl Tryz.arr147 ?_
  simp only [nm]
  refine sdc [v6.v, v6.v] ((timesL v6 v6).v) q148 (fun w hw => zcw v6 v6 LT6.out LT6.out w) ?_
  simp only [nm]
  refine sdc [(timesL v6 v6).v] (.agg ((nb ((timesL v6 v6).val : Nat)).map bval).toArray) Tryz.call111 (fun w hw => zcz _ ((zcx LT6.out LT6.out).mono (by omega)) w) ?_
  simp only [nm]
  refine zax _ _ q ((nb ((leN l : Nat) : Int)).map bval) _ (by rfl) rfl rfl (fun w hw => zaq HQ.out hw) q100 rfl (zcs _) ?_
  simp only [nm]
  refine det_eql _ _ _ _ _ _ 32 _ (nb ((timesL v6 v6).val : Nat)) (nb ((leN l : Nat) : Int)) true (by rfl) rfl (Or.inr ⟨rfl, decide_eq_false (by rw [HS1.out]; exact h1)⟩) q100 q111 zch zby zcb rfl rfl (zbr _) (zbr _) ?_
  simp only [nm]
  refine zao (fun w2 hw2 => ?_)
  have HR := xb HR hw2
  have HQ := xb HQ hw2
  have HV6 := xb HV6 hw2
  have HE := xt HE hw2
  clear hw2
  have hR := HRF.out h1
  go_wp2_with fail
  refine swf 3 1 3 ?_
  refine zax _ _ p6 v6.vs _ (by rfl) rfl rfl (fun w hw => zaq HV6.out hw) q104 rfl Tryz.arr147 ?_
  simp only [nm]
  refine sdc [] (rootL.v) Tryz.call117 (fun w hw => rootOf_any w) ?_
  simp only [nm]
  refine sdc [v6.v, rootL.v] ((timesL v6 rootL).v) q148 (fun w hw => zcw v6 rootL LT6.out rootL_lt w) ?_
  simp only [nm]
  refine zao (zec (k := 3) _ _ _ _ p6 (timesL v6 rootL).vs v6.vs rfl (by kernel_rfl) (by kernel_rfl) (by kernel_rfl) rfl rfl rfl rfl HV6.out (vs_len _ _) Tryz.arr147 (L5.vs_one _) (fun w5 hb5 hg5 => ?_))
  simp only [nm]
  have HR := jh (HR.out.grown hg5 (by simp; omega))
  have HQ := jh (HQ.out.grown hg5 (by simp; omega))
  have HE := jh (zab HE.out hg5 (by omega))
  have HV6 := jh hb5
  clear hb5 hg5
  have CVR : Hid (Cong ((timesL v6 rootL).val : Nat) (R)) := jh (by rw [hR]; have := (zdq v6 rootL).trans (CV6.out.mul (Cong.refl _)); rwa [rootL_val] at this)
  have LTR : Hid ((timesL v6 rootL).lt 18014398509481984) := jh (zcx LT6.out rootL_lt)
  clear hR HS1
  generalize timesL v6 rootL = rr at *
  have HS2 : Hid (nb ((timesL rr rr).val : Nat) = nb (R * R)) := jh (nb_cong ((zdq rr rr).trans (CVR.out.mul CVR.out)))
  clear CV1 LT1 HV1
  by_cases h2 : nb (R * R) = nb ((leN l : Nat) : Int)
  ·go_wp2_with fail
   refine zbb (by kernel_rfl) (by kernel_rfl) ?_
   refine zax _ _ p6 rr.vs _ (by rfl) rfl rfl (fun w hw => zaq HV6.out hw) q104 rfl Tryz.arr147 ?_
   simp only [nm]
   refine zax _ _ p6 rr.vs _ (by rfl) rfl rfl (fun w hw => zaq HV6.out hw) q104 rfl Tryz.arr147 ?_
   simp only [nm]
   refine sdc [rr.v, rr.v] ((timesL rr rr).v) q148 (fun w hw => zcw rr rr LTR.out LTR.out w) ?_
   simp only [nm]
   refine sdc [(timesL rr rr).v] (.agg ((nb ((timesL rr rr).val : Nat)).map bval).toArray) Tryz.call111 (fun w hw => zcz _ ((zcx LTR.out LTR.out).mono (by omega)) w) ?_
   simp only [nm]
   refine zax _ _ q ((nb ((leN l : Nat) : Int)).map bval) _ (by rfl) rfl rfl (fun w hw => zaq HQ.out hw) q100 rfl (zcs _) ?_
   simp only [nm]
   refine det_eql _ _ _ _ _ _ 32 _ (nb ((timesL rr rr).val : Nat)) (nb ((leN l : Nat) : Int)) false (by rfl) rfl (Or.inr ⟨rfl, decide_eq_true (by rw [HS2.out]; exact h2)⟩) q100 q111 zch zby zcb rfl rfl (zbr _) (zbr _) ?_
   simp only [nm]
   refine zao (fun w2 hw2 => ?_)
   have HR := xb HR hw2
   have HQ := xb HQ hw2
   have HV6 := xb HV6 hw2
   have HE := xt HE hw2
   clear hw2
   have HNR := jh (zcz rr (LTR.out.mono (by omega)))
   go_wp2_with (refine slb p6 HV6.out q104 Tryz.arr147 ?_)
   refine (HNR.out _).mono ?_
   rintro e w7 ⟨rfl, hb⟩
   have HR := xb HR hb
   have HE := xt HE hb
   clear hb HNR
   rw [numP_cong CVR.out]
   have HO0 := jh (Blk.made w7 zero32 23)
   have HX := jh (Ext.alloc w7 (.cells zero32.toArray 23))
   have HKR := xb HR HX.out
   have HRW := jh (HR.out.lt)
   go_wp2_with (refine ssb w7.heap.size ((nb (R)).map bval) HO0.out (nb_len _) (zcs _) (zaf _) ?_; intro w8 hb8 hg8)
   obtain ⟨o, ho⟩ : ∃ q, q = w7.heap.size := ⟨_, rfl⟩
   have hoR : A + 1 < o := by have := HRW.out; omega
   rw [← ho] at hb8 hg8 ⊢
   have HR := jh (HKR.out.grown hg8 (by simp; omega))
   have HE := jh (zab (HE.out.trans HX.out) hg8 (by omega))
   have HO := jh hb8
   clear hb8 hg8 ho HKR HX HO0 HRW
   refine swf 9 2 9 ?_
   refine zax _ _ o ((nb (R)).map bval) _ (by rfl) rfl rfl (fun w hw => zaq HO.out hw) q100 rfl (zcs _) ?_
   simp only [nm]
   refine zaw (.agg (zer.map bval).toArray) (by rfl) (fun w hw => by unfold execOp; simp [build_zer]) ?_
   simp only [nm]
   refine zax _ _ o ((nb (R)).map bval) _ (by rfl) rfl rfl (fun w hw => zaq HO.out hw) q100 rfl (zcs _) ?_
   simp only [nm]
   refine sdc [.agg (zer.map bval).toArray, .agg ((nb (R)).map bval).toArray] (.agg ((nb (((leN zer : Nat) : Int) - ((leN (nb (R)) : Nat) : Int))).map bval).toArray) q142 (fun w hw => Sub_num zer (nb (R)) w zdx (zbr _)) ?_
   simp only [nm]
   refine sdi o 32 0 q100 (by omega) (q115) ?_
   simp only [nm]
   refine sdl o 0 (.int .u8 ((((nb (R)).getD 0 0) : UInt8).toNat : Int)) (fun w hw => ((zad HO.out hw).cell 0).trans (zbg (by rw [zbr]; omega))) (Tryz.isAgg5) ?_
   simp only [nm]
   refine zfl _ _ _ _ _ _ _ ((((nb (R)).getD 0 0).toNat % 2 : Nat) : Int) (by rfl) rfl rfl rfl (andU1 _) ?_
   simp only [nm]
   refine zaw (.bool (decide (((nb (R)).getD 0 0).toNat % 2 = 1))) (by rfl) (fun w hw => byte_odd _ rfl rfl rfl) ?_
   simp only [nm]
   refine sdc [.agg ((nb (R)).map bval).toArray, .agg ((nb (((leN zer : Nat) : Int) - ((leN (nb (R)) : Nat) : Int))).map bval).toArray, .bool (decide (((nb (R)).getD 0 0).toNat % 2 = 1))] (.agg ((if (decide (((nb (R)).getD 0 0).toNat % 2 = 1)) then (nb (((leN zer : Nat) : Int) - ((leN (nb (R)) : Nat) : Int))) else (nb (R))).map bval).toArray) Tryz.call88 (fun w hw => Pick_num (nb (R)) (nb (((leN zer : Nat) : Int) - ((leN (nb (R)) : Nat) : Int))) (decide (((nb (R)).getD 0 0).toNat % 2 = 1)) w (zbr _) (zbr _)) ?_
   simp only [nm]
   refine zao (end_set_assign (k := 9) _ _ _ _ _ 3 (.bool true) (A + 1) ((if (decide (((nb (R)).getD 0 0).toNat % 2 = 1)) then (nb (((leN zer : Nat) : Int) - ((leN (nb (R)) : Nat) : Int))) else (nb (R))).map bval) zero32 rfl rfl (by kernel_rfl) (by kernel_rfl) (by kernel_rfl) (by kernel_rfl) rfl rfl rfl rfl rfl rfl HR.out (pick_len _ _ _) (pick_size _ _ _) (zaf _) rfl rfl rfl (fun w9 hb9 hg9 => ?_))
   simp only [nm]
   rw [rootN_true2 HRD.out h2] at hb9 ⊢
   go_wp2_with fail
   exact bodyPost_ret (zai (p := 2) (u := 3) (by rfl) _ (A + 1) _ _ _ (by rfl) hb9 q100 rfl (rootN_size _)) rfl ⟨by rw [rootB_true2 HRD.out h2]; rfl, zab HE.out hg9 (by omega)⟩
  ·go_wp2_with fail
   refine zbb (by kernel_rfl) (by kernel_rfl) ?_
   refine zax _ _ p6 rr.vs _ (by rfl) rfl rfl (fun w hw => zaq HV6.out hw) q104 rfl Tryz.arr147 ?_
   simp only [nm]
   refine zax _ _ p6 rr.vs _ (by rfl) rfl rfl (fun w hw => zaq HV6.out hw) q104 rfl Tryz.arr147 ?_
   simp only [nm]
   refine sdc [rr.v, rr.v] ((timesL rr rr).v) q148 (fun w hw => zcw rr rr LTR.out LTR.out w) ?_
   simp only [nm]
   refine sdc [(timesL rr rr).v] (.agg ((nb ((timesL rr rr).val : Nat)).map bval).toArray) Tryz.call111 (fun w hw => zcz _ ((zcx LTR.out LTR.out).mono (by omega)) w) ?_
   simp only [nm]
   refine zax _ _ q ((nb ((leN l : Nat) : Int)).map bval) _ (by rfl) rfl rfl (fun w hw => zaq HQ.out hw) q100 rfl (zcs _) ?_
   simp only [nm]
   refine det_eql _ _ _ _ _ _ 32 _ (nb ((timesL rr rr).val : Nat)) (nb ((leN l : Nat) : Int)) true (by rfl) rfl (Or.inr ⟨rfl, decide_eq_false (by rw [HS2.out]; exact h2)⟩) q100 q111 zch zby zcb rfl rfl (zbr _) (zbr _) ?_
   simp only [nm]
   refine zao (fun w2 hw2 => ?_)
   have HR := xb HR hw2
   have HQ := xb HQ hw2
   have HV6 := xb HV6 hw2
   have HE := xt HE hw2
   clear hw2
   have HZ1 : Hid (zer.map bval = zero32) := jh zer_zero32
   go_wp2_with (refine ssb (A + 1) zero32 HR.out rfl Tryz.arr23 (zaj _ _) ?_; intro w5 hb5 hg5)
   rw [← HZ1.out] at hb5
   exact bodyPost_ret (zai (p := 2) (u := 3) (by rfl) _ (A + 1) _ _ _ (by rfl) hb5 q100 rfl zer_size) rfl ⟨by rw [rootN_false2 HRD.out h2, rootB_false2 HRD.out h2]; rfl, zab HE.out hg5 (by omega)⟩
def rtX (a : Fp) : Fp := fp ((leN (rootN (a.val : Int)) : Nat) : Int)
theorem nb_f (x : Int) : nb x = nbF (fp x) := rfl
theorem rootN_fp (x : Int) : rootN x = if rootB x then nbF (if (fp (rootR x)).val % 2 = 1 then 0 - fp (rootR x) else fp (rootR x)) else nbF 0 := by
 unfold rootN
 cases rootB x
 ·simp only [Bool.false_eq_true, if_false]
  decide +kernel
 ·simp only [if_true]
  rw [nb_f (rootR x), nbF_odd, nb_f, leN_nbF, leN_zer, fp_sub, zdm]
  by_cases h : (fp (rootR x)).val % 2 = 1
  ·rw [if_pos (by simpa using h), if_pos h]
   rfl
  ·rw [if_neg (by simpa using h), if_neg h]
theorem rootN_nbF (x : Int) : ∃ f, rootN x = nbF f := by
 rw [rootN_fp]
 split
 ·exact ⟨_, rfl⟩
 ·exact ⟨_, rfl⟩
theorem rtX_nb (a : Fp) : rootN (a.val : Int) = nbF (rtX a) := by
 obtain ⟨f, hf⟩ := rootN_nbF (a.val : Int)
 unfold rtX
 rw [hf, leN_nbF, zdm]
theorem rt_self (a : Fp) : rootB (a.val : Int) = rtB a := by rw [rt_is, zdm]
theorem rtX_of {a : Fp} (h : rtB a = true) : rtX a = if (fp (rootR (a.val : Int))).val % 2 = 1 then 0 - fp (rootR (a.val : Int)) else fp (rootR (a.val : Int)) := by
 apply nbF_inj
 rw [← rtX_nb, rootN_fp, rt_self, h]
 rfl
theorem rtX_sq {a : Fp} (h : rtB a = true) : rtX a * rtX a = a := by
 rw [rtX_of h]
 rw [← rt_self] at h
 have e : fp (rootR (a.val : Int)) * fp (rootR (a.val : Int)) = a := by
  rw [← fp_mul, fp_eq.2 (rtc_sq h), zdm]
 generalize fp (rootR (a.val : Int)) = r at *
 split
 ·have e2 : (0 - r) * (0 - r) = r * r := by clear e h; grind
  rw [e2, e]
 ·exact e
theorem rtX_even {a : Fp} (h : rtB a = true) : (rtX a).val % 2 = 0 := by
 rw [rtX_of h]
 generalize fp (rootR (a.val : Int)) = r at *
 by_cases hr : r.val % 2 = 1
 ·rw [if_pos hr]
  have h0 : r ≠ 0 := fun e => by
   rw [e] at hr
   exact absurd hr (by decide)
  have hn := neg_odd h0
  have e : 0 - r = -r := by clear hn h0 hr h; grind
  rw [e]
  omega
 ·rw [if_neg hr]
  omega
theorem croot_f (w : World) (a : Fp) : Calls Tryz.prog 86 #[.agg ((nbF a).map bval).toArray] w fun e w' => e = .returned (.tuple #[.agg ((nbF (rtX a)).map bval).toArray, .bool (rtB a)]) ∧ Below w.heap.size w w' := by
 have h := Root_num (nbF a) w (zae a)
 rw [leN_nbF, rtX_nb, rt_self] at h
 exact h
theorem pickX_even {x : Fp} (h : x.val % 2 = 0) (b : Bool) : pickX x b.toNat = if b then 0 - x else x := by
 unfold pickX
 cases b
 ·rw [if_pos (by simpa using h)]
  rfl
 ·rw [if_neg (by simp; omega)]
  simp only [if_true]
  clear h
  grind
theorem dec_none_y {n : List UInt8} (h : n.length = 32) (hp : pN ≤ leN (yB n)) : mayB n = false ∧ decE n = ⟨0, 0, 0, 0⟩ := by
 have hn := may_no_y h hp
 exact ⟨zew hn, decE_not hn⟩
theorem dec_none_root {n : List UInt8} (h : n.length = 32) {y : Fp} (hy : yB n = nbF y) (hr : rtB (rad y) = false) : mayB n = false ∧ decE n = ⟨0, 0, 0, 0⟩ := by
 have hl : leN (yB n) = y.val := by rw [hy, leN_nbF]
 have hn : ¬ edMay n := may_no_root h (by rw [hl]; exact y.isLt) (fun x hx => by
  rw [hl, zdm] at hx
  rw [rtB_true ⟨x, hx⟩] at hr
  cases hr)
 exact ⟨zew hn, decE_not hn⟩
theorem dec_none_bit {n : List UInt8} (h : n.length = 32) {y : Fp} (hy : yB n = nbF y) (hr : rtB (rad y) = true) (hx : rtX (rad y) = 0) (hb : bitN n = 1) : mayB n = false ∧ decE n = ⟨0, 0, 0, 0⟩ := by
 have hl : leN (yB n) = y.val := by rw [hy, leN_nbF]
 have hs := rtX_sq hr
 have hn : ¬ edMay n := may_no_f h (by rw [hl]; exact y.isLt) (f := rtX (rad y)) (by rw [hs, hl, zdm]) hx hb
 exact ⟨zew hn, decE_not hn⟩
theorem dec_some {n : List UInt8} (h : n.length = 32) {y : Fp} {b : Bool} (hy : yB n = nbF y) (hr : rtB (rad y) = true) (hb : bitN n = b.toNat) (h0 : ¬ (rtX (rad y) = 0 ∧ b = true)) :
  mayB n = true ∧ decE n = ⟨pkF b (rtX (rad y)) (0 - rtX (rad y)), y, 1, pkF b (rtX (rad y)) (0 - rtX (rad y)) * y⟩ := by
 have hl : leN (yB n) = y.val := by rw [hy, leN_nbF]
 have hs := rtX_sq hr
 have h1 : leN (yB n) < pN := by rw [hl]; exact y.isLt
 have h2 : rtX (rad y) * rtX (rad y) = rad (fp ((leN (yB n) : Nat) : Int)) := by rw [hs, hl, zdm]
 have hR := read_enc h h1 h2 (fun hh => h0 ⟨hh.1, by cases b with | true => rfl | false => (rw [hb] at hh; exact absurd hh.2 (by decide))⟩)
 refine ⟨zef ⟨_, hR⟩, ?_⟩
 rw [decE_of hR]
 have hx : (readP (rtX (rad y)) (fp ((leN (yB n) : Nat) : Int)) (bitN n) h2).x = pkF b (rtX (rad y)) (0 - rtX (rad y)) := by
  show pickX _ _ = _
  rw [hb, pickX_even (rtX_even hr)]
  rfl
 have hyy : (readP (rtX (rad y)) (fp ((leN (yB n) : Nat) : Int)) (bitN n) h2).y = y := by
  show fp _ = _
  rw [hl, zdm]
 unfold Pt.es
 rw [hx, hyy]
theorem Inv_num (l : List UInt8) (w : World) (hl : l.length = 32) :
  Calls Tryz.prog 84 #[.agg (l.map bval).toArray] w fun e w' => e = .returned (numP ((leN l : Int) ^ (pP - 2).toNat)) ∧ Below w.heap.size w w' := by
 have HLl := jh hl
 have HIl : Hid ((Tryz.prog.info? 23).map (·.size) = some (l.map bval).length) := jh (by rw [q101, hl]; exact Tryz.arr23)
 have HB := jh (boxes2 w (l.map bval) zero32 23 23)
 clear hl
 go_enter Tryz.func84, Tryz.ntmps84
 go_wp2_with (refine slb w.heap.size HB.out.1 q100 HIl.out ?_)
 change Calls _ _ _ ((w.alloc (.cells (l.map bval).toArray 23)).alloc (.cells zero32.toArray 23)) _
 generalize (w.alloc (.cells (l.map bval).toArray 23)).alloc (.cells zero32.toArray 23) = w0 at *
 obtain ⟨h1, h2, h4⟩ := HB.out
 obtain ⟨A, hA⟩ : ∃ A, A = w.heap.size := ⟨_, rfl⟩
 rw [← hA] at h1 h2 ⊢
 have hA2 : w.heap.size ≤ A := by omega
 have H1 := jh h1
 have HR := jh h2
 have HE : Hid (Ext w w0) := jh h4
 clear h1 h2 h4 HB hA
 refine (zdl l HLl.out _).mono ?_
 rintro e w1 ⟨rfl, hb⟩
 have HR := xb HR hb
 have HE := xt HE hb
 clear hb
 obtain ⟨v1, hv⟩ : ∃ v, v = limbsL l := ⟨_, rfl⟩
 rw [← hv]
 have LT1 : Hid (v1.lt 18014398509481984) := jh (by rw [hv]; exact limbsL_lt l)
 have CV1 : Hid (Cong (v1.val : Nat) ((leN l : Int) ^ 1)) := jh (by rw [hv, ← pow1]; exact zdz l HLl.out)
 clear hv
 obtain ⟨p1, hp⟩ : ∃ p, p = w1.heap.size := ⟨_, rfl⟩
 have HV1 := jh (Blk.made w1 v1.vs 147)
 have HX1 := jh (Ext.alloc w1 (.cells v1.vs.toArray 147))
 have HR := xb HR HX1.out
 have HE := xt HE HX1.out
 rw [← hp] at HV1
 clear HX1
 unfold L5.v L5.vs
 go_wp2_with fail
 rw [← hp]
 change Calls _ _ #[v1.v, v1.v] (w1.alloc (.cells v1.vs.toArray 147)) _
 generalize w1.alloc (.cells v1.vs.toArray 147) = y1 at *
 clear hp
 refine (zcw v1 v1 LT1.out LT1.out _).mono ?_
 rintro e w2 ⟨rfl, hb⟩
 have HR := xb HR hb
 have HV1 := xb HV1 hb
 have HE := xt HE hb
 clear hb
 obtain ⟨v2, hv⟩ : ∃ v, v = timesL v1 v1 := ⟨_, rfl⟩
 rw [← hv]
 have LT2 : Hid (v2.lt 18014398509481984) := jh (by rw [hv]; exact zcx LT1.out LT1.out)
 have CV2 : Hid (Cong (v2.val : Nat) ((leN l : Int) ^ 2)) := jh (by rw [hv]; have := (zdq v1 v1).trans (CV1.out.mul CV1.out); rwa [← q135] at this)
 clear hv
 obtain ⟨p2, hp⟩ : ∃ p, p = w2.heap.size := ⟨_, rfl⟩
 have HV2 := jh (Blk.made w2 v2.vs 147)
 have HX1 := jh (Ext.alloc w2 (.cells v2.vs.toArray 147))
 have HR := xb HR HX1.out
 have HV1 := xb HV1 HX1.out
 have HE := xt HE HX1.out
 rw [← hp] at HV2
 clear HX1
 unfold L5.v L5.vs
 go_wp2_with fail
 rw [← hp]
 change Code.wp _ _ _ _ (w2.alloc (.cells v2.vs.toArray 147))
 generalize w2.alloc (.cells v2.vs.toArray 147) = y2 at *
 clear hp
 refine swf 6 2 7 ?_
 refine zax _ _ p2 v2.vs _ (by rfl) rfl rfl (fun w hw => zaq HV2.out hw) q104 rfl Tryz.arr147 ?_
 simp only [nm]
 refine sdc [v2.v, .int .i64 2] ((sqL v2 2).v) Tryz.call114 (fun w hw => squared_any v2 2 LT2.out (by omega) w) ?_
 simp only [nm]
 refine zax _ _ p2 v2.vs _ (by rfl) rfl rfl (fun w hw => zaq HV2.out hw) q104 rfl Tryz.arr147 ?_
 simp only [nm]
 refine sdc [(sqL v2 2).v, v2.v] ((joinL v2 2 v2).v) q148 (fun w hw => zcw (sqL v2 2) v2 (sqL_lt LT2.out 2) LT2.out w) ?_
 simp only [nm]
 refine zax _ _ p1 v1.vs _ (by rfl) rfl rfl (fun w hw => zaq HV1.out hw) q104 rfl Tryz.arr147 ?_
 simp only [nm]
 refine sdc [(joinL v2 2 v2).v, v1.v] ((timesL (joinL v2 2 v2) v1).v) q148 (fun w hw => zcw (joinL v2 2 v2) v1 (zdr 2 LT2.out LT2.out) LT1.out w) ?_
 simp only [nm]
 refine zao (zep (k := 6) _ 5 (.tmp 16) zero5 (timesL (joinL v2 2 v2) v1).vs rfl rfl (by kernel_rfl) (by kernel_rfl) (by kernel_rfl) (by kernel_rfl) (by kernel_rfl) rfl rfl rfl rfl Tryz.zeroValue147 rfl (by simp) (fun p => rfl) rfl Tryz.arr147 (L5.vs_one _) (fun p3 w3 hp3 hb3 he3 => ?_))
 simp only [nm]
 have HR := xb HR he3
 have HV1 := xb HV1 he3
 have HV2 := xb HV2 he3
 have HE := xt HE he3
 obtain ⟨v3, hv⟩ : ∃ v, v = timesL (joinL v2 2 v2) v1 := ⟨_, rfl⟩
 rw [← hv] at hb3 ⊢
 have LT3 : Hid (v3.lt 18014398509481984) := jh (by rw [hv]; exact zcx (zdr 2 LT2.out LT2.out) LT1.out)
 have CV3 : Hid (Cong (v3.val : Nat) ((leN l : Int) ^ 11)) := jh (by rw [hv]; have := (zdq (joinL v2 2 v2) v1).trans ((zdg 2 CV2.out CV2.out).mul CV1.out); rwa [← q135] at this)
 clear hv
 have HV3 := jh hb3
 clear hb3 he3 hp3
 go_wp2_with fail
 refine swf 5 1 5 ?_
 refine zax _ _ p1 v1.vs _ (by rfl) rfl rfl (fun w hw => zaq HV1.out hw) q104 rfl Tryz.arr147 ?_
 simp only [nm]
 refine sdc [v1.v] ((onesL v1).v) Tryz.call116 (fun w hw => ones_any v1 LT1.out w) ?_
 simp only [nm]
 refine zax _ _ p3 v3.vs _ (by rfl) rfl rfl (fun w hw => zaq HV3.out hw) q104 rfl Tryz.arr147 ?_
 simp only [nm]
 refine sdc [(onesL v1).v, .int .i64 5, v3.v] ((joinL (onesL v1) 5 v3).v) Tryz.call115 (fun w hw => zcu (onesL v1) 5 v3 (onesL_lt LT1.out) LT3.out (by omega) w) ?_
 simp only [nm]
 refine sdc [(joinL (onesL v1) 5 v3).v] (numP ((joinL (onesL v1) 5 v3).val : Nat)) Tryz.call111 (fun w hw => zcz _ ((zdr 5 (onesL_lt LT1.out) LT3.out).mono (by omega)) w) ?_
 simp only [nm]
 have HV : numP ((joinL (onesL v1) 5 v3).val : Nat) = numP ((leN l : Int) ^ (pP - 2).toNat) := numP_cong (by
  have c1 : Cong (v1.val : Nat) (leN l : Int) := by have := CV1.out; rwa [← pow1] at this
  have := zdg 5 (onesL_val c1) CV3.out
  rwa [show (2 ^ 250 - 1) * 2 ^ 5 + 11 = (pP - 2).toNat from by decide +kernel] at this)
 rw [HV]
 refine zao (zec (k := 5) _ _ _ _ (A + 1) ((nb ((leN l : Int) ^ (pP - 2).toNat)).map bval) zero32 rfl (by kernel_rfl) (by kernel_rfl) (by kernel_rfl) rfl rfl rfl rfl HR.out (nb_len _) (zcs _) (zaf _) (fun w8 hb8 hg8 => ?_))
 simp only [Act.put]
 go_wp2_with fail
 exact bodyPost_ret (v := numP ((leN l : Int) ^ (pP - 2).toNat)) (zap (by rfl) _ (A + 1) _ _ _ (by rfl) hb8 q100 rfl (zcs _)) rfl ⟨rfl, zab HE.out hg8 (by omega)⟩
theorem fmul_f {l m : List UInt8} {f g : Fp} (w : World) (hl : F32 l f) (hm : F32 m g) : Calls Tryz.prog 83 #[.agg (l.map bval).toArray, .agg (m.map bval).toArray] w fun e w' => e = .returned (.agg ((nbF (f * g)).map bval).toArray) ∧ Below w.heap.size w w' := by
 refine (Mul_num l m w hl.1 hm.1).mono ?_
 rintro e w' ⟨rfl, hb⟩
 exact ⟨by rw [nb_nbF, fp_mul, hl.2, hm.2], hb⟩
theorem fadd_f {l m : List UInt8} {f g : Fp} (w : World) (hl : F32 l f) (hm : F32 m g) : Calls Tryz.prog 85 #[.agg (l.map bval).toArray, .agg (m.map bval).toArray] w fun e w' => e = .returned (.agg ((nbF (f + g)).map bval).toArray) ∧ Below w.heap.size w w' := by
 refine (Add_num l m w hl.1 hm.1).mono ?_
 rintro e w' ⟨rfl, hb⟩
 exact ⟨by rw [nb_nbF, fp_add, hl.2, hm.2], hb⟩
theorem fsub_f {l m : List UInt8} {f g : Fp} (w : World) (hl : F32 l f) (hm : F32 m g) : Calls Tryz.prog 87 #[.agg (l.map bval).toArray, .agg (m.map bval).toArray] w fun e w' => e = .returned (.agg ((nbF (f - g)).map bval).toArray) ∧ Below w.heap.size w w' := by
 refine (Sub_num l m w hl.1 hm.1).mono ?_
 rintro e w' ⟨rfl, hb⟩
 exact ⟨by rw [nb_nbF, fp_sub, hl.2, hm.2], hb⟩
theorem finv_f {l : List UInt8} {f : Fp} (w : World) (hl : F32 l f) : Calls Tryz.prog 84 #[.agg (l.map bval).toArray] w fun e w' => e = .returned (.agg ((nbF (fi f)).map bval).toArray) ∧ Below w.heap.size w w' := by
 refine (Inv_num l w hl.1).mono ?_
 rintro e w' ⟨rfl, hb⟩
 refine ⟨?_, hb⟩
 rw [nb_nbF, ← hl.2, fi_fp]
 rfl
theorem fpick_f {l m : List UInt8} (s : Bool) (w : World) (hl : l.length = 32) (hm : m.length = 32) : Calls Tryz.prog 88 #[.agg (l.map bval).toArray, .agg (m.map bval).toArray, .bool s] w fun e w' => e = .returned (.agg ((pkL s l m).map bval).toArray) ∧ Below w.heap.size w w' := Pick_num l m s w hl hm
