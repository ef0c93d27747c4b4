/- Texts that belong together, one behind the other. -/
import Derived.Test.YtimmnieopifcbaaGreatDoorQz04
namespace Go.Proofs.YtimmnieopifcbaaGreatDoor
set_option linter.unusedVariables false
set_option maxRecDepth 100000
set_option maxHeartbeats 32000000
set_option linter.unusedSimpArgs false
open Go.RowKit
theorem nb_len (x : Int) : ((nb x).map bval).length = zero32.length := by rw [List.length_map, nb_length]; rfl
theorem nb_size (x : Int) : (Tryz.prog.info? 23).map (·.size) = some ((nb x).map bval).length := by rw [List.length_map, nb_length]; exact Tryz.arr23
theorem nb_cong {x y : Int} (h : Cong x y) : nb x = nb y := by unfold nb; rw [cong_iff.1 h]
theorem numP_cong {x y : Int} (h : Cong x y) : numP x = numP y := by
 show Value.agg ((nb x).map bval).toArray = Value.agg ((nb y).map bval).toArray
 rw [nb_cong h]
theorem Mul_num (l m : List UInt8) (w : World) (hl : l.length = 32) (hm : m.length = 32) :
  Calls Tryz.prog 38 #[.agg (l.map bval).toArray, .agg (m.map bval).toArray] w fun e w' => e = .returned (numP ((leN l : Int) * leN m)) ∧ Below w.heap.size w w' := by
 have HV := jh (numP_cong ((timesL_val (limbsL l) (limbsL m)).trans ((limbsL_val l hl).mul (limbsL_val m hm))))
 have HLl := jh hl
 have HLm := jh hm
 have HIl : Hid ((Tryz.prog.info? 23).map (·.size) = some (l.map bval).length) := jh (by rw [List.length_map, hl]; exact Tryz.arr23)
 have HIm : Hid ((Tryz.prog.info? 23).map (·.size) = some (m.map bval).length) := jh (by rw [List.length_map, hm]; exact Tryz.arr23)
 have HB := jh (boxes3 w (l.map bval) (m.map bval) zero32 23 23 23)
 clear hl hm
 go_enter Tryz.func38, Tryz.ntmps38
 go_wp2_with fail
 change Code.wp _ _ _ _ (((w.alloc (.cells (l.map bval).toArray 23)).alloc (.cells (m.map bval).toArray 23)).alloc (.cells zero32.toArray 23))
 generalize ((w.alloc (.cells (l.map bval).toArray 23)).alloc (.cells (m.map bval).toArray 23)).alloc (.cells zero32.toArray 23) = w0 at *
 obtain ⟨h1, h2, h3, h4⟩ := HB.out
 obtain ⟨A, hA⟩ : ∃ A, A = w.heap.size := ⟨_, rfl⟩
 rw [← hA] at h1 h2 h3 ⊢
 have hA2 : w.heap.size ≤ A := by omega
 have H1 := jh h1
 have H2 := jh h2
 have H3 := jh h3
 have HE : Hid (Ext w w0) := jh h4
 clear h1 h2 h3 h4 HB hA
 refine zal 6 1 6 rfl (by kernel_rfl) (by kernel_rfl) (fun d v c a w h => by cases d <;> exact h) (by kernel_rfl) ?_
 refine zbp _ _ A (l.map bval) _ (by rfl) rfl rfl (fun w hw => zbj H1.out hw) Tryz.underlying23 rfl HIl.out ?_
 simp only [Act.put, nrm]
 refine zaj _ _ _ [.agg (l.map bval).toArray] ((limbsL l).v) (by rfl) rfl Tryz.call65 rfl (fun w hw => zed l HLl.out w) ?_
 simp only [Act.put, nrm]
 refine zbp _ _ (A + 1) (m.map bval) _ (by rfl) rfl rfl (fun w hw => zbj H2.out hw) Tryz.underlying23 rfl HIm.out ?_
 simp only [Act.put, nrm]
 refine zaj _ _ _ [.agg (m.map bval).toArray] ((limbsL m).v) (by rfl) rfl Tryz.call65 rfl (fun w hw => zed m HLm.out w) ?_
 simp only [Act.put, nrm]
 refine zaj _ _ _ [(limbsL l).v, (limbsL m).v] ((timesL (limbsL l) (limbsL m)).v) (by rfl) rfl Tryz.call64 rfl (fun w hw => times_any _ _ (limbsL_lt l) (limbsL_lt m) w) ?_
 simp only [Act.put, nrm]
 refine zaj _ _ _ [(timesL (limbsL l) (limbsL m)).v] (numP ((timesL (limbsL l) (limbsL m)).val : Nat)) (by rfl) rfl Tryz.call63 rfl (fun w hw => numOf_any _ ((timesL_lt (limbsL_lt l) (limbsL_lt m)).mono (by omega)) w) ?_
 simp only [Act.put, nrm]
 rw [HV.out]
 refine zbg (end_set (k := 6) _ _ _ _ (A + 1 + 1) ((nb ((leN l : Int) * leN m)).map bval) zero32 rfl (by kernel_rfl) (by kernel_rfl) (by kernel_rfl) rfl rfl rfl rfl H3.out (nb_len _) (nb_size _) (zag _) (fun w8 hb8 hg8 => ?_))
 simp only [Act.put]
 go_wp2_with fail
 exact bodyPost_ret (v := numP ((leN l : Int) * leN m)) (zbk (by rfl) _ (A + 1 + 1) _ _ _ (by rfl) hb8 Tryz.underlying23 rfl (nb_size _)) rfl ⟨rfl, zae HE.out hg8 (by omega)⟩
theorem limbsL_lt2 (l : List UInt8) : (limbsL l).lt 2251799813685267 := by
 have hd := wAt_lt l 24
 refine ⟨?_, ?_, ?_, ?_, ?_⟩ <;> simp only [limbsL, limbsW] <;> omega
structure SumL (xs ys zs : List Nat) (k : Nat) : Prop where
 len : zs.length = 5
 low : ∀ i, i < k → zs.getD i 0 = xs.getD i 0 + ys.getD i 0
 high : ∀ i, k ≤ i → zs.getD i 0 = xs.getD i 0
theorem SumL.step {xs ys zs : List Nat} {k : Nat} (h : SumL xs ys zs k) (hk : k < 5) : SumL xs ys (zs.set k (xs.getD k 0 + ys.getD k 0)) (k + 1) := by
 obtain ⟨h1, h2, h3⟩ := h
 refine ⟨by simp [h1], fun i hi => ?_, fun i hi => ?_⟩
 ·by_cases e : i = k
  ·subst e
   rw [getD_setN (by omega)]
  ·rw [zdr (by omega)]
   exact h2 i (by omega)
 ·rw [zdr (by omega)]
  exact h3 i (by omega)
theorem sum_done {x y : L5} {xs ys zs : List Nat} (ex : xs = [x.a, x.b, x.c, x.d, x.e]) (ey : ys = [y.a, y.b, y.c, y.d, y.e]) (hx : x.lt 2251799813685267) (hy : y.lt 2251799813685267) (h : SumL xs ys zs 5) :
  ∃ z : L5, zs = [z.a, z.b, z.c, z.d, z.e] ∧ z.lt 18446744073709551616 ∧ z.val = x.val + y.val := by
 subst ex
 subst ey
 have e := list5 zs h.len
 have f0 := h.low 0 (by omega)
 have f1 := h.low 1 (by omega)
 have f2 := h.low 2 (by omega)
 have f3 := h.low 3 (by omega)
 have f4 := h.low 4 (by omega)
 simp only [List.getD_cons_zero, List.getD_cons_succ] at f0 f1 f2 f3 f4
 obtain ⟨a0, a1, a2, a3, a4⟩ := hx
 obtain ⟨b0, b1, b2, b3, b4⟩ := hy
 refine ⟨⟨zs.getD 0 0, zs.getD 1 0, zs.getD 2 0, zs.getD 3 0, zs.getD 4 0⟩, e, ?_, ?_⟩
 ·simp only [L5.lt]
  omega
 ·simp only [L5.val]
  omega
def twiceL : L5 := ⟨4503599627370458, 4503599627370494, 4503599627370494, 4503599627370494, 4503599627370494⟩
def twiceN : List Nat := [4503599627370458, 4503599627370494, 4503599627370494, 4503599627370494, 4503599627370494]
theorem twice_bounds (k : Nat) (h : k < 5) : 4503599627370458 ≤ twiceN.getD k 0 ∧ twiceN.getD k 0 ≤ 4503599627370494 := by
 match k, h with
 | 0, _ => decide
 | 1, _ => decide
 | 2, _ => decide
 | 3, _ => decide
 | 4, _ => decide
structure DifL (xs ys zs : List Nat) (k : Nat) : Prop where
 len : zs.length = 5
 low : ∀ i, i < k → zs.getD i 0 = xs.getD i 0 + (twiceN.getD i 0 - ys.getD i 0)
 high : ∀ i, k ≤ i → zs.getD i 0 = xs.getD i 0
theorem DifL.step {xs ys zs : List Nat} {k : Nat} (h : DifL xs ys zs k) (hk : k < 5) : DifL xs ys (zs.set k (xs.getD k 0 + (twiceN.getD k 0 - ys.getD k 0))) (k + 1) := by
 obtain ⟨h1, h2, h3⟩ := h
 refine ⟨by simp [h1], fun i hi => ?_, fun i hi => ?_⟩
 ·by_cases e : i = k
  ·subst e
   rw [getD_setN (by omega)]
  ·rw [zdr (by omega)]
   exact h2 i (by omega)
 ·rw [zdr (by omega)]
  exact h3 i (by omega)
theorem dif_done {x y : L5} {xs ys zs : List Nat} (ex : xs = [x.a, x.b, x.c, x.d, x.e]) (ey : ys = [y.a, y.b, y.c, y.d, y.e]) (hx : x.lt 2251799813685267) (hy : y.lt 2251799813685267) (h : DifL xs ys zs 5) :
  ∃ z : L5, zs = [z.a, z.b, z.c, z.d, z.e] ∧ z.lt 18446744073709551616 ∧ Cong (z.val : Nat) ((x.val : Int) - (y.val : Nat)) := by
 subst ex
 subst ey
 have e := list5 zs h.len
 have f0 := h.low 0 (by omega)
 have f1 := h.low 1 (by omega)
 have f2 := h.low 2 (by omega)
 have f3 := h.low 3 (by omega)
 have f4 := h.low 4 (by omega)
 simp only [twiceN, List.getD_cons_zero, List.getD_cons_succ] at f0 f1 f2 f3 f4
 obtain ⟨a0, a1, a2, a3, a4⟩ := hx
 obtain ⟨b0, b1, b2, b3, b4⟩ := hy
 refine ⟨⟨zs.getD 0 0, zs.getD 1 0, zs.getD 2 0, zs.getD 3 0, zs.getD 4 0⟩, e, ?_, 2, ?_⟩
 ·simp only [L5.lt]
  omega
 ·have hp : pP = 57896044618658097711785492504343953926634992332820282019728792003956564819949 := rfl
  rw [hp]
  simp only [L5.val]
  omega
theorem Add_num (l m : List UInt8) (w : World) (hl : l.length = 32) (hm : m.length = 32) :
  Calls Tryz.prog 93 #[.agg (l.map bval).toArray, .agg (m.map bval).toArray] w fun e w' => e = .returned (numP ((leN l : Int) + leN m)) ∧ Below w.heap.size w w' := by
 have HLl := jh hl
 have HLm := jh hm
 have HIl : Hid ((Tryz.prog.info? 23).map (·.size) = some (l.map bval).length) := jh (by rw [List.length_map, hl]; exact Tryz.arr23)
 have HIm : Hid ((Tryz.prog.info? 23).map (·.size) = some (m.map bval).length) := jh (by rw [List.length_map, hm]; exact Tryz.arr23)
 have HB := jh (boxes3 w (l.map bval) (m.map bval) zero32 23 23 23)
 clear hl hm
 go_enter Tryz.func93, Tryz.ntmps93
 go_wp2_with fail
 change Code.wp _ _ _ _ (((w.alloc (.cells (l.map bval).toArray 23)).alloc (.cells (m.map bval).toArray 23)).alloc (.cells zero32.toArray 23))
 generalize ((w.alloc (.cells (l.map bval).toArray 23)).alloc (.cells (m.map bval).toArray 23)).alloc (.cells zero32.toArray 23) = w0 at *
 obtain ⟨h1, h2, h3, h4⟩ := HB.out
 obtain ⟨A, hA⟩ : ∃ A, A = w.heap.size := ⟨_, rfl⟩
 rw [← hA] at h1 h2 h3 ⊢
 have hA2 : w.heap.size ≤ A := by omega
 have H1 := jh h1
 have H2 := jh h2
 have H3 := jh h3
 have HE : Hid (Ext w w0) := jh h4
 clear h1 h2 h3 h4 HB hA
 have H30 := H3.out.lt
 refine zal 4 4 6 rfl (by kernel_rfl) (by kernel_rfl) (fun d v c a w h => by cases d <;> exact h) (by kernel_rfl) ?_
 refine zbp _ _ A (l.map bval) _ (by rfl) rfl rfl (fun w hw => zbj H1.out hw) Tryz.underlying23 rfl HIl.out ?_
 simp only [Act.put, nrm]
 refine zaj _ _ _ [.agg (l.map bval).toArray] ((limbsL l).v) (by rfl) rfl Tryz.call65 rfl (fun w hw => zed l HLl.out w) ?_
 simp only [Act.put, nrm]
 refine zbp _ _ (A + 1) (m.map bval) _ (by rfl) rfl rfl (fun w hw => zbj H2.out hw) Tryz.underlying23 rfl HIm.out ?_
 simp only [Act.put, nrm]
 refine zaj _ _ _ [.agg (m.map bval).toArray] ((limbsL m).v) (by rfl) rfl Tryz.call65 rfl (fun w hw => zed m HLm.out w) ?_
 simp only [Act.put, nrm]
 refine zbg (end_var2 (k := 4) _ 5 6 (.tmp 9) (.tmp 11) zero5 (limbsL l).vs (limbsL m).vs rfl rfl rfl rfl (by kernel_rfl) (by kernel_rfl) (by kernel_rfl) (by kernel_rfl) (by kernel_rfl) (by kernel_rfl) (by kernel_rfl) (by kernel_rfl) (by kernel_rfl) (by kernel_rfl) rfl rfl rfl rfl rfl rfl rfl rfl (by decide) Tryz.zeroValue90 rfl rfl rfl rfl (by simp) (by simp) (fun p q => rfl) (fun p q => rfl) rfl rfl Tryz.arr90 Tryz.arr90 (L5.vs_one _) (L5.vs_one _) (fun p q w1 hpq hp hq hb1 hb2 he => ?_))
 simp only [Act.put, nrm]
 have H3 := jh (zaa H3.out he)
 have HE := jh (HE.out.trans he)
 have HX := jh hb1
 have HY := jh hb2
 have h3A := H3.out.lt
 have h3p : A + 1 + 1 < w0.heap.size := H30
 have hpA : A + 1 + 1 < p := by omega
 have hqA : A + 1 + 1 < q := by omega
 clear hb1 hb2 he h3A h3p hp hq
 obtain ⟨lx, hlx⟩ : ∃ x, x = limbsL l := ⟨_, rfl⟩
 obtain ⟨ly, hly⟩ : ∃ x, x = limbsL m := ⟨_, rfl⟩
 rw [← hlx] at HX
 rw [← hly] at HY
 have HLX : Hid (lx.lt 2251799813685267) := jh (by rw [hlx]; exact limbsL_lt2 l)
 have HLY : Hid (ly.lt 2251799813685267) := jh (by rw [hly]; exact limbsL_lt2 m)
 have HVX : Hid (Cong (lx.val : Nat) (leN l : Nat)) := jh (by rw [hlx]; exact limbsL_val l HLl.out)
 have HVY : Hid (Cong (ly.val : Nat) (leN m : Nat)) := jh (by rw [hly]; exact limbsL_val m HLm.out)
 obtain ⟨xs, hxs⟩ : ∃ xs, xs = [lx.a, lx.b, lx.c, lx.d, lx.e] := ⟨_, rfl⟩
 obtain ⟨ys, hys⟩ : ∃ ys, ys = [ly.a, ly.b, ly.c, ly.d, ly.e] := ⟨_, rfl⟩
 have HXL : Hid (xs.length = 5) := jh (by rw [hxs]; rfl)
 have HYL : Hid (ys.length = 5) := jh (by rw [hys]; rfl)
 have HXB : Hid (∀ i, xs.getD i 0 < 2251799813685267) := jh (by rw [hxs]; exact getD_all5 HLX.out (by omega))
 have HYB : Hid (∀ i, ys.getD i 0 < 2251799813685267) := jh (by rw [hys]; exact getD_all5 HLY.out (by omega))
 have HX : Hid (Blk w1 p (nats xs) 90) := jh (by rw [hxs]; exact HX.out)
 have HY : Hid (Blk w1 q (nats ys) 90) := jh (by rw [hys]; exact HY.out)
 have HXS := jh hxs
 have HYS := jh hys
 clear hlx hly hxs hys
 go_wp2_with fail
 obtain ⟨wo, rfl⟩ : ∃ wo : World, wo = w1 := ⟨_, rfl⟩
 go_loopw [12] (fun i wr => ∃ (k : Nat) (zs : List Nat), k ≤ 5 ∧ i = .int .i64 k ∧ SumL xs ys zs k ∧ Blk wr p (nats zs) 90 ∧ Blk wr q (nats ys) 90 ∧ Blk wr (A + 1 + 1) zero32 23 ∧ Ext w wr) (fun i _ => 5 - (intOf i).toNat)
 case atStart => exact ⟨0, xs, by omega, rfl, ⟨HXL.out, fun i hi => by omega, fun i _ => rfl⟩, HX.out, HY.out, H3.out, HE.out⟩
 case round =>
  clear HX HY H3 HE
  obtain ⟨k, zs, hk, rfl, hs, hb1, hb2, hb3, hbe⟩ := hrel
  have i0' : (0 : Int) ≤ (k : Int) := Int.natCast_nonneg _
  have hl5 := hs.len
  by_cases hlt : k < 5
  ·have i1 : (k : Int) < 5 := by omega
   have e1 := hb1.cell k
   rw [nats_get (by omega), hs.high k (Nat.le_refl _)] at e1
   have e2 := hb2.cell k
   rw [nats_get (by have := HYL.out; omega)] at e2
   have f1 := hb1.free k
   have b1 := HXB.out k
   have b2 := HYB.out k
   have hst := hs.step hlt
   generalize xs.getD k 0 = a at *
   generalize ys.getD k 0 = b at *
   have W1 : Hid (((a : Int) + (b : Int)) = ((a + b : Nat) : Int)) := jh (by omega)
   have W2 : IntKind.u64.wrap ((a : Int) + (b : Int)) = (a : Int) + (b : Int) := by rw [IntKind.wrap_u64]; omega
   have HST := jh hst
   have HB1 := jh hb1
   have HB2 := jh hb2
   have HB3 := jh hb3
   have HBE := jh hbe
   clear hs hst hb1 hb2 hb3 hbe hl5 b1 b2
   go_wp2_with fail
   go_region
   go_wp2_with fail
   go_roundw
   case rel =>
    rw [W1.out]
    refine ⟨k + 1, _, by omega, by go_num, HST.out, ?_, HB2.out.far (by simpa using hpq) _, HB3.out.far (by simp; omega) _, (Below.setCell HBE.out (by simp; omega) _).drew⟩
    rw [← nats_set]
    exact HB1.out.set k _
   case measure => simp [intOf]; omega
  ·have hk' : k = 5 := by omega
   subst hk'
   obtain ⟨z, hz, hzlt, hzv⟩ := sum_done HXS.out HYS.out HLX.out HLY.out hs
   subst hz
   have HN := jh (numOf_any z hzlt)
   have HV : Hid (numP (z.val : Nat) = numP ((leN l : Int) + leN m)) := jh (numP_cong (by rw [hzv, Int.natCast_add]; exact HVX.out.add HVY.out))
   have HB1 := jh hb1
   have HB3 := jh hb3
   have HBE := jh hbe
   clear hb1 hb2 hb3 hbe hs hl5
   go_wp2_with (refine zab rfl _ _ rfl p rfl _ z.vs _ _ HB1.out Tryz.underlying90 Tryz.arr90 ?_)
   refine (HN.out _).mono ?_
   rintro e w2 ⟨rfl, hb⟩
   have HB3 := jh (zaa HB3.out hb)
   have HBE := jh (HBE.out.trans hb)
   clear hb
   rw [HV.out]
   go_wp2_with (refine zac rfl _ _ _ rfl (A + 1 + 1) ((nb ((leN l : Int) + leN m)).map bval) rfl rfl _ _ HB3.out (nb_len _) (nb_size _) (zag _) ?_; intro w5 hb5 hg5)
   exact bodyPost_ret (v := numP ((leN l : Int) + leN m)) (zbk (by rfl) _ (A + 1 + 1) _ _ _ (by rfl) hb5 Tryz.underlying23 rfl (nb_size _)) rfl ⟨rfl, zae HBE.out hg5 (by omega)⟩
theorem Sub_num (l m : List UInt8) (w : World) (hl : l.length = 32) (hm : m.length = 32) :
  Calls Tryz.prog 92 #[.agg (l.map bval).toArray, .agg (m.map bval).toArray] w fun e w' => e = .returned (numP ((leN l : Int) - leN m)) ∧ Below w.heap.size w w' := by
 have HLl := jh hl
 have HLm := jh hm
 have HIl : Hid ((Tryz.prog.info? 23).map (·.size) = some (l.map bval).length) := jh (by rw [List.length_map, hl]; exact Tryz.arr23)
 have HIm : Hid ((Tryz.prog.info? 23).map (·.size) = some (m.map bval).length) := jh (by rw [List.length_map, hm]; exact Tryz.arr23)
 have HB := jh (boxes3 w (l.map bval) (m.map bval) zero32 23 23 23)
 clear hl hm
 go_enter Tryz.func92, Tryz.ntmps92
 go_wp2_with fail
 change Code.wp _ _ _ _ (((w.alloc (.cells (l.map bval).toArray 23)).alloc (.cells (m.map bval).toArray 23)).alloc (.cells zero32.toArray 23))
 generalize ((w.alloc (.cells (l.map bval).toArray 23)).alloc (.cells (m.map bval).toArray 23)).alloc (.cells zero32.toArray 23) = w0 at *
 obtain ⟨h1, h2, h3, h4⟩ := HB.out
 obtain ⟨A, hA⟩ : ∃ A, A = w.heap.size := ⟨_, rfl⟩
 rw [← hA] at h1 h2 h3 ⊢
 have hA2 : w.heap.size ≤ A := by omega
 have H1 := jh h1
 have H2 := jh h2
 have H3 := jh h3
 have HE : Hid (Ext w w0) := jh h4
 clear h1 h2 h3 h4 HB hA
 have H30 := H3.out.lt
 refine zal 4 4 6 rfl (by kernel_rfl) (by kernel_rfl) (fun d v c a w h => by cases d <;> exact h) (by kernel_rfl) ?_
 refine zbp _ _ A (l.map bval) _ (by rfl) rfl rfl (fun w hw => zbj H1.out hw) Tryz.underlying23 rfl HIl.out ?_
 simp only [Act.put, nrm]
 refine zaj _ _ _ [.agg (l.map bval).toArray] ((limbsL l).v) (by rfl) rfl Tryz.call65 rfl (fun w hw => zed l HLl.out w) ?_
 simp only [Act.put, nrm]
 refine zbp _ _ (A + 1) (m.map bval) _ (by rfl) rfl rfl (fun w hw => zbj H2.out hw) Tryz.underlying23 rfl HIm.out ?_
 simp only [Act.put, nrm]
 refine zaj _ _ _ [.agg (m.map bval).toArray] ((limbsL m).v) (by rfl) rfl Tryz.call65 rfl (fun w hw => zed m HLm.out w) ?_
 simp only [Act.put, nrm]
 refine zbg (end_var2 (k := 4) _ 5 6 (.tmp 10) (.tmp 12) zero5 (limbsL l).vs (limbsL m).vs rfl rfl rfl rfl (by kernel_rfl) (by kernel_rfl) (by kernel_rfl) (by kernel_rfl) (by kernel_rfl) (by kernel_rfl) (by kernel_rfl) (by kernel_rfl) (by kernel_rfl) (by kernel_rfl) rfl rfl rfl rfl rfl rfl rfl rfl (by decide) Tryz.zeroValue90 rfl rfl rfl rfl (by simp) (by simp) (fun p q => rfl) (fun p q => rfl) rfl rfl Tryz.arr90 Tryz.arr90 (L5.vs_one _) (L5.vs_one _) (fun p q w1 hpq hp hq hb1 hb2 he => ?_))
 simp only [Act.put, nrm]
 have H3 := jh (zaa H3.out he)
 have HE := jh (HE.out.trans he)
 have HX := jh hb1
 have HY := jh hb2
 have h3A := H3.out.lt
 have h3p : A + 1 + 1 < w0.heap.size := H30
 have hpA : A + 1 + 1 < p := by omega
 have hqA : A + 1 + 1 < q := by omega
 clear hb1 hb2 he h3A h3p hp hq
 obtain ⟨lx, hlx⟩ : ∃ x, x = limbsL l := ⟨_, rfl⟩
 obtain ⟨ly, hly⟩ : ∃ x, x = limbsL m := ⟨_, rfl⟩
 rw [← hlx] at HX
 rw [← hly] at HY
 have HLX : Hid (lx.lt 2251799813685267) := jh (by rw [hlx]; exact limbsL_lt2 l)
 have HLY : Hid (ly.lt 2251799813685267) := jh (by rw [hly]; exact limbsL_lt2 m)
 have HVX : Hid (Cong (lx.val : Nat) (leN l : Nat)) := jh (by rw [hlx]; exact limbsL_val l HLl.out)
 have HVY : Hid (Cong (ly.val : Nat) (leN m : Nat)) := jh (by rw [hly]; exact limbsL_val m HLm.out)
 obtain ⟨xs, hxs⟩ : ∃ xs, xs = [lx.a, lx.b, lx.c, lx.d, lx.e] := ⟨_, rfl⟩
 obtain ⟨ys, hys⟩ : ∃ ys, ys = [ly.a, ly.b, ly.c, ly.d, ly.e] := ⟨_, rfl⟩
 have HXL : Hid (xs.length = 5) := jh (by rw [hxs]; rfl)
 have HYL : Hid (ys.length = 5) := jh (by rw [hys]; rfl)
 have HXB : Hid (∀ i, xs.getD i 0 < 2251799813685267) := jh (by rw [hxs]; exact getD_all5 HLX.out (by omega))
 have HYB : Hid (∀ i, ys.getD i 0 < 2251799813685267) := jh (by rw [hys]; exact getD_all5 HLY.out (by omega))
 have HX : Hid (Blk w1 p (nats xs) 90) := jh (by rw [hxs]; exact HX.out)
 have HY : Hid (Blk w1 q (nats ys) 90) := jh (by rw [hys]; exact HY.out)
 have HXS := jh hxs
 have HYS := jh hys
 clear hlx hly hxs hys
 go_wp2_with fail
 have HT0 := jh (Blk.made w1 twiceL.vs 90)
 have HA0 := jh (Ext.alloc w1 (.cells twiceL.vs.toArray 90))
 obtain ⟨R, hR⟩ : ∃ R, R = w1.heap.size := ⟨_, rfl⟩
 have hpR : p < R := by have := HX.out.lt; omega
 have hqR : q < R := by have := HY.out.lt; omega
 have hRA : A + 1 + 1 < R := by omega
 change Code.wp _ _ _ _ (w1.alloc (.cells twiceL.vs.toArray 90))
 rw [← hR] at HT0 ⊢
 have HX := jh (zaa HX.out HA0.out)
 have HY := jh (zaa HY.out HA0.out)
 have H3 := jh (zaa H3.out HA0.out)
 have HE := jh (HE.out.trans HA0.out)
 generalize w1.alloc (.cells twiceL.vs.toArray 90) = w2 at *
 clear hR HA0
 have HT : Hid (Blk w2 R (nats twiceN) 90) := HT0
 clear HT0
 obtain ⟨wo, rfl⟩ : ∃ wo : World, wo = w2 := ⟨_, rfl⟩
 go_loopw [14] (fun i wr => ∃ (k : Nat) (zs : List Nat), k ≤ 5 ∧ i = .int .i64 k ∧ DifL xs ys zs k ∧ Blk wr p (nats zs) 90 ∧ Blk wr q (nats ys) 90 ∧ Blk wr R (nats twiceN) 90 ∧ Blk wr (A + 1 + 1) zero32 23 ∧ Ext w wr) (fun i _ => 5 - (intOf i).toNat)
 case atStart => exact ⟨0, xs, by omega, rfl, ⟨HXL.out, fun i hi => by omega, fun i _ => rfl⟩, HX.out, HY.out, HT.out, H3.out, HE.out⟩
 case round =>
  clear HX HY H3 HE HT
  obtain ⟨k, zs, hk, rfl, hs, hb1, hb2, hbt, hb3, hbe⟩ := hrel
  have i0' : (0 : Int) ≤ (k : Int) := Int.natCast_nonneg _
  have hl5 := hs.len
  by_cases hlt : k < 5
  ·have i1 : (k : Int) < 5 := by omega
   have e1 := hb1.cell k
   rw [nats_get (by omega), hs.high k (Nat.le_refl _)] at e1
   have e2 := hb2.cell k
   rw [nats_get (by have := HYL.out; omega)] at e2
   have e3 := hbt.cell k
   rw [nats_get (by simpa [twiceN] using hlt)] at e3
   have f1 := hb1.free k
   have b1 := HXB.out k
   have b2 := HYB.out k
   have b3 := twice_bounds k hlt
   have hst := hs.step hlt
   generalize xs.getD k 0 = a at *
   generalize ys.getD k 0 = b at *
   generalize twiceN.getD k 0 = c at *
   obtain ⟨b31, b32⟩ := b3
   have W1 : Hid (((a : Int) + ((c : Int) - (b : Int))) = ((a + (c - b) : Nat) : Int)) := jh (by omega)
   have W2 : IntKind.u64.wrap ((c : Int) - (b : Int)) = (c : Int) - (b : Int) := by rw [IntKind.wrap_u64]; omega
   have W3 : IntKind.u64.wrap ((a : Int) + ((c : Int) - (b : Int))) = (a : Int) + ((c : Int) - (b : Int)) := by rw [IntKind.wrap_u64]; omega
   have HST := jh hst
   have HB1 := jh hb1
   have HB2 := jh hb2
   have HB3 := jh hb3
   have HBT := jh hbt
   have HBE := jh hbe
   clear hs hst hb1 hb2 hb3 hbt hbe hl5 b1 b2 b31 b32
   go_wp2_with fail
   go_region
   go_wp2_with fail
   go_roundw
   case rel =>
    rw [W1.out]
    refine ⟨k + 1, _, by omega, by go_num, HST.out, ?_, HB2.out.far (by simpa using hpq) _, HBT.out.far (by simp; omega) _, HB3.out.far (by simp; omega) _, (Below.setCell HBE.out (by simp; omega) _).drew⟩
    rw [← nats_set]
    exact HB1.out.set k _
   case measure => simp [intOf]; omega
  ·have hk' : k = 5 := by omega
   subst hk'
   obtain ⟨z, hz, hzlt, hzv⟩ := dif_done HXS.out HYS.out HLX.out HLY.out hs
   subst hz
   have HN := jh (numOf_any z hzlt)
   have HV : Hid (numP (z.val : Nat) = numP ((leN l : Int) - leN m)) := jh (numP_cong (hzv.trans (HVX.out.sub HVY.out)))
   have HB1 := jh hb1
   have HB3 := jh hb3
   have HBE := jh hbe
   clear hb1 hb2 hb3 hbt hbe hs hl5
   go_wp2_with (refine zab rfl _ _ rfl p rfl _ z.vs _ _ HB1.out Tryz.underlying90 Tryz.arr90 ?_)
   refine (HN.out _).mono ?_
   rintro e w2 ⟨rfl, hb⟩
   have HB3 := jh (zaa HB3.out hb)
   have HBE := jh (HBE.out.trans hb)
   clear hb
   rw [HV.out]
   go_wp2_with (refine zac rfl _ _ _ rfl (A + 1 + 1) ((nb ((leN l : Int) - leN m)).map bval) rfl rfl _ _ HB3.out (nb_len _) (nb_size _) (zag _) ?_; intro w5 hb5 hg5)
   exact bodyPost_ret (v := numP ((leN l : Int) - leN m)) (zbk (by rfl) _ (A + 1 + 1) _ _ _ (by rfl) hb5 Tryz.underlying23 rfl (nb_size _)) rfl ⟨rfl, zae HBE.out hg5 (by omega)⟩
theorem squared_any (x : L5) (n : Nat) (hx : x.lt 18014398509481984) (hn : n < 1000) (w : World) :
  Calls Tryz.prog 66 #[x.v, .int .i64 n] w fun e w' => e = .returned (sqL x n).v ∧ Below w.heap.size w w' := by
 have HX := jh hx
 have HN := jh hn
 have HB := jh (boxes2 w x.vs zero5 90 90)
 clear hx hn
 unfold L5.v
 go_enter Tryz.func66, Tryz.ntmps66
 go_wp2_with fail
 change Code.wp _ _ _ _ ((w.alloc (.cells x.vs.toArray 90)).alloc (.cells zero5.toArray 90))
 generalize (w.alloc (.cells x.vs.toArray 90)).alloc (.cells zero5.toArray 90) = w0 at *
 obtain ⟨h1, h2, h4⟩ := HB.out
 obtain ⟨A, hA⟩ : ∃ A, A = w.heap.size := ⟨_, rfl⟩
 rw [← hA] at h1 h2 ⊢
 have hA2 : w.heap.size ≤ A := by omega
 have H1 := jh h1
 have H2 := jh h2
 have HE : Hid (Ext w w0) := jh h4
 clear h1 h2 h4 HB hA
 go_loopw [6] (fun i wr => ∃ k : Nat, k ≤ n ∧ i = .int .i64 k ∧ Blk wr A (sqL x k).vs 90 ∧ Blk wr (A + 1) zero5 90 ∧ Ext w wr) (fun i _ => n - (intOf i).toNat)
 case atStart => exact ⟨0, Nat.zero_le _, rfl, H1.out, H2.out, HE.out⟩
 case round =>
  clear H1 H2 HE
  obtain ⟨k, hk, rfl, hb1, hb2, hbe⟩ := hrel
  have i0' : (0 : Int) ≤ (k : Int) := Int.natCast_nonneg _
  have hn := HN.out
  by_cases hlt : k < n
  ·have i1 : (k : Int) < (n : Int) := by omega
   have HT := jh (times_any (sqL x k) (sqL x k) (sqL_lt HX.out k) (sqL_lt HX.out k))
   have H1 := jh hb1
   have H2 := jh hb2
   have HE := jh hbe
   clear hb1 hb2 hbe
   go_wp2_with (refine zab rfl _ _ rfl A rfl _ _ _ _ H1.out Tryz.underlying90 Tryz.arr90 ?_)
   refine (HT.out _).mono ?_
   rintro e w1 ⟨rfl, hb1⟩
   have H1 := jh (zaa H1.out hb1)
   have H2 := jh (zaa H2.out hb1)
   have HE := jh (HE.out.trans hb1)
   clear hb1
   go_wp2_with (refine zac rfl _ _ _ rfl A (sqL x (k + 1)).vs rfl rfl _ _ H1.out rfl Tryz.arr90 (L5.vs_one _) ?_; intro w2 hb2 hg2)
   go_roundw
   case rel => exact ⟨k + 1, by omega, by go_num, hb2, H2.out.grown hg2 (by simp), zae HE.out hg2 hA2⟩
   case measure => simp [intOf]; omega
  ·have hk' : k = n := by omega
   subst hk'
   have H1 := jh hb1
   have H2 := jh hb2
   have HE := jh hbe
   clear hb1 hb2 hbe
   go_wp2_with (first | (refine zab rfl _ _ rfl A rfl _ _ _ _ H1.out Tryz.underlying90 Tryz.arr90 ?_) | (refine zac rfl _ _ _ rfl (A + 1) (sqL x k).vs rfl rfl _ _ H2.out rfl Tryz.arr90 (L5.vs_one _) ?_; intro w2 hb2 hg2))
   exact bodyPost_ret (v := (sqL x k).v) (zbk (by rfl) _ (A + 1) _ _ _ (by rfl) hb2 Tryz.underlying90 rfl Tryz.arr90) rfl ⟨rfl, zae HE.out hg2 (by omega)⟩
theorem zcz (x : L5) (n : Nat) (y : L5) (hx : x.lt 18014398509481984) (hy : y.lt 18014398509481984) (hn : n < 1000) (w : World) :
  Calls Tryz.prog 67 #[x.v, .int .i64 n, y.v] w fun e w' => e = .returned (joinL x n y).v ∧ Below w.heap.size w w' := by
 have HX := jh hx
 have HY := jh hy
 have HN := jh hn
 have HB := jh (boxes3 w x.vs y.vs zero5 90 90 90)
 clear hx hy hn
 unfold L5.v
 go_enter Tryz.func67, Tryz.ntmps67
 go_wp2_with fail
 change Code.wp _ _ _ _ (((w.alloc (.cells x.vs.toArray 90)).alloc (.cells y.vs.toArray 90)).alloc (.cells zero5.toArray 90))
 generalize ((w.alloc (.cells x.vs.toArray 90)).alloc (.cells y.vs.toArray 90)).alloc (.cells zero5.toArray 90) = w0 at *
 obtain ⟨h1, h2, h3, h4⟩ := HB.out
 obtain ⟨A, hA⟩ : ∃ A, A = w.heap.size := ⟨_, rfl⟩
 rw [← hA] at h1 h2 h3 ⊢
 have hA2 : w.heap.size ≤ A := by omega
 have H1 := jh h1
 have H2 := jh h2
 have H3 := jh h3
 have HE : Hid (Ext w w0) := jh h4
 clear h1 h2 h3 h4 HB hA
 refine zal 5 1 5 rfl (by kernel_rfl) (by kernel_rfl) (fun d v c a w h => by cases d <;> exact h) (by kernel_rfl) ?_
 refine zbp _ _ A x.vs _ (by rfl) rfl rfl (fun w hw => zbj H1.out hw) Tryz.underlying90 rfl Tryz.arr90 ?_
 simp only [Act.put, nrm]
 refine zba _ (.int .i64 (n : Int)) (by rfl) rfl rfl ?_
 simp only [Act.put, nrm]
 refine zaj _ _ _ [x.v, .int .i64 (n : Int)] ((sqL x n).v) (by rfl) rfl Tryz.call66 rfl (fun w hw => squared_any x n HX.out HN.out w) ?_
 simp only [Act.put, nrm]
 refine zbp _ _ (A + 1) y.vs _ (by rfl) rfl rfl (fun w hw => zbj H2.out hw) Tryz.underlying90 rfl Tryz.arr90 ?_
 simp only [Act.put, nrm]
 refine zaj _ _ _ [(sqL x n).v, y.v] ((joinL x n y).v) (by rfl) rfl Tryz.call64 rfl (fun w hw => times_any (sqL x n) y (sqL_lt HX.out n) HY.out w) ?_
 simp only [Act.put, nrm]
 refine zbg (end_set (k := 5) _ _ _ _ (A + 1 + 1) (joinL x n y).vs zero5 rfl (by kernel_rfl) (by kernel_rfl) (by kernel_rfl) rfl rfl rfl rfl H3.out rfl Tryz.arr90 (L5.vs_one _) (fun w8 hb8 hg8 => ?_))
 simp only [Act.put]
 go_wp2_with fail
 exact bodyPost_ret (v := (joinL x n y).v) (zbk (by rfl) _ (A + 1 + 1) _ _ _ (by rfl) hb8 Tryz.underlying90 rfl Tryz.arr90) rfl ⟨rfl, zae HE.out hg8 (by omega)⟩
theorem ones_any (x : L5) (hx : x.lt 18014398509481984) (w : World) :
  Calls Tryz.prog 68 #[x.v] w fun e w' => e = .returned (onesL x).v ∧ Below w.heap.size w w' := by
 have HX := jh hx
 have HB := jh (boxes2 w x.vs zero5 90 90)
 clear hx
 unfold L5.v
 go_enter Tryz.func68, Tryz.ntmps68
 go_wp2_with (refine zab rfl _ _ rfl w.heap.size rfl _ _ _ _ HB.out.1 Tryz.underlying90 Tryz.arr90 ?_)
 change Calls _ _ _ ((w.alloc (.cells x.vs.toArray 90)).alloc (.cells zero5.toArray 90)) _
 generalize (w.alloc (.cells x.vs.toArray 90)).alloc (.cells zero5.toArray 90) = w0 at *
 obtain ⟨h1, h2, h4⟩ := HB.out
 obtain ⟨A, hA⟩ : ∃ A, A = w.heap.size := ⟨_, rfl⟩
 rw [← hA] at h1 h2 ⊢
 have hA2 : w.heap.size ≤ A := by omega
 have H1 := jh h1
 have HR := jh h2
 have HE : Hid (Ext w w0) := jh h4
 clear h1 h2 h4 HB hA
 refine (zcz x 1 x HX.out HX.out (by omega) _).mono ?_
 rintro e w1 ⟨rfl, hb⟩
 have H1 := jh (zaa H1.out hb)
 have HR := jh (zaa HR.out hb)
 have HE := jh (HE.out.trans hb)
 clear hb
 obtain ⟨v1, hv⟩ : ∃ v, v = o2 x := ⟨_, rfl⟩
 rw [show joinL x 1 x = v1 from by rw [hv]; rfl]
 have LTv1 : Hid (v1.lt 18014398509481984) := jh (by rw [hv]; exact o2_lt HX.out)
 have HVEv1 := jh hv
 clear hv
 obtain ⟨p1, hp1⟩ : ∃ p, p = w1.heap.size := ⟨_, rfl⟩
 have HV1 := jh (Blk.made w1 v1.vs 90)
 have HX1 := jh (Ext.alloc w1 (.cells v1.vs.toArray 90))
 have H1 := jh (zaa H1.out HX1.out)
 have HR := jh (zaa HR.out HX1.out)
 have HE := jh (HE.out.trans HX1.out)
 rw [← hp1] at HV1
 clear HX1
 unfold L5.v L5.vs
 go_wp2_with fail
 rw [← hp1]
 change Calls _ _ #[v1.v, .int .i64 ((2 : Nat) : Int), v1.v] (w1.alloc (.cells v1.vs.toArray 90)) _
 generalize w1.alloc (.cells v1.vs.toArray 90) = y1 at *
 clear hp1
 refine (zcz v1 2 v1 LTv1.out LTv1.out (by omega) _).mono ?_
 rintro e w2 ⟨rfl, hb⟩
 have H1 := jh (zaa H1.out hb)
 have HV1 := jh (zaa HV1.out hb)
 have HR := jh (zaa HR.out hb)
 have HE := jh (HE.out.trans hb)
 clear hb
 obtain ⟨v2, hv⟩ : ∃ v, v = o4 x := ⟨_, rfl⟩
 rw [show joinL v1 2 v1 = v2 from by rw [hv, HVEv1.out]; rfl]
 have LTv2 : Hid (v2.lt 18014398509481984) := jh (by rw [hv]; exact o4_lt HX.out)
 have HVEv2 := jh hv
 clear hv
 obtain ⟨p2, hp2⟩ : ∃ p, p = w2.heap.size := ⟨_, rfl⟩
 have HV2 := jh (Blk.made w2 v2.vs 90)
 have HX1 := jh (Ext.alloc w2 (.cells v2.vs.toArray 90))
 have H1 := jh (zaa H1.out HX1.out)
 have HV1 := jh (zaa HV1.out HX1.out)
 have HR := jh (zaa HR.out HX1.out)
 have HE := jh (HE.out.trans HX1.out)
 rw [← hp2] at HV2
 clear HX1
 have ccx0 := H1.out.cell 0
 have ccx1 := H1.out.cell 1
 have ccx2 := H1.out.cell 2
 have ccx3 := H1.out.cell 3
 have ccx4 := H1.out.cell 4
 simp only [L5.vs, List.getElem?_cons_zero, List.getElem?_cons_succ] at ccx0 ccx1 ccx2 ccx3 ccx4
 unfold L5.v L5.vs
 go_wp2_with fail
 rw [← hp2]
 change Calls _ _ #[v2.v, .int .i64 ((1 : Nat) : Int), x.v] (w2.alloc (.cells v2.vs.toArray 90)) _
 generalize w2.alloc (.cells v2.vs.toArray 90) = y2 at *
 clear hp2 ccx0 ccx1 ccx2 ccx3 ccx4
 refine (zcz v2 1 x LTv2.out HX.out (by omega) _).mono ?_
 rintro e w3 ⟨rfl, hb⟩
 have H1 := jh (zaa H1.out hb)
 have HV1 := jh (zaa HV1.out hb)
 have HV2 := jh (zaa HV2.out hb)
 have HR := jh (zaa HR.out hb)
 have HE := jh (HE.out.trans hb)
 clear hb
 obtain ⟨v3, hv⟩ : ∃ v, v = o5 x := ⟨_, rfl⟩
 rw [show joinL v2 1 x = v3 from by rw [hv, HVEv2.out]; rfl]
 have LTv3 : Hid (v3.lt 18014398509481984) := jh (by rw [hv]; exact o5_lt HX.out)
 have HVEv3 := jh hv
 clear hv
 obtain ⟨p3, hp3⟩ : ∃ p, p = w3.heap.size := ⟨_, rfl⟩
 have HV3 := jh (Blk.made w3 v3.vs 90)
 have HX1 := jh (Ext.alloc w3 (.cells v3.vs.toArray 90))
 have H1 := jh (zaa H1.out HX1.out)
 have HV1 := jh (zaa HV1.out HX1.out)
 have HV2 := jh (zaa HV2.out HX1.out)
 have HR := jh (zaa HR.out HX1.out)
 have HE := jh (HE.out.trans HX1.out)
 rw [← hp3] at HV3
 clear HX1
 unfold L5.v L5.vs
 go_wp2_with fail
 rw [← hp3]
 change Calls _ _ #[v3.v, .int .i64 ((5 : Nat) : Int), v3.v] (w3.alloc (.cells v3.vs.toArray 90)) _
 generalize w3.alloc (.cells v3.vs.toArray 90) = y3 at *
 clear hp3
 refine (zcz v3 5 v3 LTv3.out LTv3.out (by omega) _).mono ?_
 rintro e w4 ⟨rfl, hb⟩
 have H1 := jh (zaa H1.out hb)
 have HV1 := jh (zaa HV1.out hb)
 have HV2 := jh (zaa HV2.out hb)
 have HV3 := jh (zaa HV3.out hb)
 have HR := jh (zaa HR.out hb)
 have HE := jh (HE.out.trans hb)
 clear hb
 obtain ⟨v4, hv⟩ : ∃ v, v = o10 x := ⟨_, rfl⟩
 rw [show joinL v3 5 v3 = v4 from by rw [hv, HVEv3.out]; rfl]
 have LTv4 : Hid (v4.lt 18014398509481984) := jh (by rw [hv]; exact o10_lt HX.out)
 have HVEv4 := jh hv
 clear hv
 obtain ⟨p4, hp4⟩ : ∃ p, p = w4.heap.size := ⟨_, rfl⟩
 have HV4 := jh (Blk.made w4 v4.vs 90)
 have HX1 := jh (Ext.alloc w4 (.cells v4.vs.toArray 90))
 have H1 := jh (zaa H1.out HX1.out)
 have HV1 := jh (zaa HV1.out HX1.out)
 have HV2 := jh (zaa HV2.out HX1.out)
 have HV3 := jh (zaa HV3.out HX1.out)
 have HR := jh (zaa HR.out HX1.out)
 have HE := jh (HE.out.trans HX1.out)
 rw [← hp4] at HV4
 clear HX1
 unfold L5.v L5.vs
 go_wp2_with fail
 rw [← hp4]
 change Calls _ _ #[v4.v, .int .i64 ((10 : Nat) : Int), v4.v] (w4.alloc (.cells v4.vs.toArray 90)) _
 generalize w4.alloc (.cells v4.vs.toArray 90) = y4 at *
 clear hp4
 refine (zcz v4 10 v4 LTv4.out LTv4.out (by omega) _).mono ?_
 rintro e w5 ⟨rfl, hb⟩
 have H1 := jh (zaa H1.out hb)
 have HV1 := jh (zaa HV1.out hb)
 have HV2 := jh (zaa HV2.out hb)
 have HV3 := jh (zaa HV3.out hb)
 have HV4 := jh (zaa HV4.out hb)
 have HR := jh (zaa HR.out hb)
 have HE := jh (HE.out.trans hb)
 clear hb
 obtain ⟨v5, hv⟩ : ∃ v, v = o20 x := ⟨_, rfl⟩
 rw [show joinL v4 10 v4 = v5 from by rw [hv, HVEv4.out]; rfl]
 have LTv5 : Hid (v5.lt 18014398509481984) := jh (by rw [hv]; exact o20_lt HX.out)
 have HVEv5 := jh hv
 clear hv
 obtain ⟨p5, hp5⟩ : ∃ p, p = w5.heap.size := ⟨_, rfl⟩
 have HV5 := jh (Blk.made w5 v5.vs 90)
 have HX1 := jh (Ext.alloc w5 (.cells v5.vs.toArray 90))
 have H1 := jh (zaa H1.out HX1.out)
 have HV1 := jh (zaa HV1.out HX1.out)
 have HV2 := jh (zaa HV2.out HX1.out)
 have HV3 := jh (zaa HV3.out HX1.out)
 have HV4 := jh (zaa HV4.out HX1.out)
 have HR := jh (zaa HR.out HX1.out)
 have HE := jh (HE.out.trans HX1.out)
 rw [← hp5] at HV5
 clear HX1
 unfold L5.v L5.vs
 go_wp2_with fail
 rw [← hp5]
 change Calls _ _ #[v5.v, .int .i64 ((20 : Nat) : Int), v5.v] (w5.alloc (.cells v5.vs.toArray 90)) _
 generalize w5.alloc (.cells v5.vs.toArray 90) = y5 at *
 clear hp5
 refine (zcz v5 20 v5 LTv5.out LTv5.out (by omega) _).mono ?_
 rintro e w6 ⟨rfl, hb⟩
 have H1 := jh (zaa H1.out hb)
 have HV1 := jh (zaa HV1.out hb)
 have HV2 := jh (zaa HV2.out hb)
 have HV3 := jh (zaa HV3.out hb)
 have HV4 := jh (zaa HV4.out hb)
 have HV5 := jh (zaa HV5.out hb)
 have HR := jh (zaa HR.out hb)
 have HE := jh (HE.out.trans hb)
 clear hb
 obtain ⟨v6, hv⟩ : ∃ v, v = o40 x := ⟨_, rfl⟩
 rw [show joinL v5 20 v5 = v6 from by rw [hv, HVEv5.out]; rfl]
 have LTv6 : Hid (v6.lt 18014398509481984) := jh (by rw [hv]; exact o40_lt HX.out)
 have HVEv6 := jh hv
 clear hv
 obtain ⟨p6, hp6⟩ : ∃ p, p = w6.heap.size := ⟨_, rfl⟩
 have HV6 := jh (Blk.made w6 v6.vs 90)
 have HX1 := jh (Ext.alloc w6 (.cells v6.vs.toArray 90))
 have H1 := jh (zaa H1.out HX1.out)
 have HV1 := jh (zaa HV1.out HX1.out)
 have HV2 := jh (zaa HV2.out HX1.out)
 have HV3 := jh (zaa HV3.out HX1.out)
 have HV4 := jh (zaa HV4.out HX1.out)
 have HV5 := jh (zaa HV5.out HX1.out)
 have HR := jh (zaa HR.out HX1.out)
 have HE := jh (HE.out.trans HX1.out)
 rw [← hp6] at HV6
 clear HX1
 have ccv40 := HV4.out.cell 0
 have ccv41 := HV4.out.cell 1
 have ccv42 := HV4.out.cell 2
 have ccv43 := HV4.out.cell 3
 have ccv44 := HV4.out.cell 4
 simp only [L5.vs, List.getElem?_cons_zero, List.getElem?_cons_succ] at ccv40 ccv41 ccv42 ccv43 ccv44
 unfold L5.v L5.vs
 go_wp2_with fail
 rw [← hp6]
 change Calls _ _ #[v6.v, .int .i64 ((10 : Nat) : Int), v4.v] (w6.alloc (.cells v6.vs.toArray 90)) _
 generalize w6.alloc (.cells v6.vs.toArray 90) = y6 at *
 clear hp6 ccv40 ccv41 ccv42 ccv43 ccv44
 refine (zcz v6 10 v4 LTv6.out LTv4.out (by omega) _).mono ?_
 rintro e w7 ⟨rfl, hb⟩
 have H1 := jh (zaa H1.out hb)
 have HV1 := jh (zaa HV1.out hb)
 have HV2 := jh (zaa HV2.out hb)
 have HV3 := jh (zaa HV3.out hb)
 have HV4 := jh (zaa HV4.out hb)
 have HV5 := jh (zaa HV5.out hb)
 have HV6 := jh (zaa HV6.out hb)
 have HR := jh (zaa HR.out hb)
 have HE := jh (HE.out.trans hb)
 clear hb
 obtain ⟨v7, hv⟩ : ∃ v, v = o50 x := ⟨_, rfl⟩
 rw [show joinL v6 10 v4 = v7 from by rw [hv, HVEv6.out, HVEv4.out]; rfl]
 have LTv7 : Hid (v7.lt 18014398509481984) := jh (by rw [hv]; exact o50_lt HX.out)
 have HVEv7 := jh hv
 clear hv
 obtain ⟨p7, hp7⟩ : ∃ p, p = w7.heap.size := ⟨_, rfl⟩
 have HV7 := jh (Blk.made w7 v7.vs 90)
 have HX1 := jh (Ext.alloc w7 (.cells v7.vs.toArray 90))
 have H1 := jh (zaa H1.out HX1.out)
 have HV1 := jh (zaa HV1.out HX1.out)
 have HV2 := jh (zaa HV2.out HX1.out)
 have HV3 := jh (zaa HV3.out HX1.out)
 have HV4 := jh (zaa HV4.out HX1.out)
 have HV5 := jh (zaa HV5.out HX1.out)
 have HV6 := jh (zaa HV6.out HX1.out)
 have HR := jh (zaa HR.out HX1.out)
 have HE := jh (HE.out.trans HX1.out)
 rw [← hp7] at HV7
 clear HX1
 unfold L5.v L5.vs
 go_wp2_with fail
 rw [← hp7]
 change Calls _ _ #[v7.v, .int .i64 ((50 : Nat) : Int), v7.v] (w7.alloc (.cells v7.vs.toArray 90)) _
 generalize w7.alloc (.cells v7.vs.toArray 90) = y7 at *
 clear hp7
 refine (zcz v7 50 v7 LTv7.out LTv7.out (by omega) _).mono ?_
 rintro e w8 ⟨rfl, hb⟩
 have H1 := jh (zaa H1.out hb)
 have HV1 := jh (zaa HV1.out hb)
 have HV2 := jh (zaa HV2.out hb)
 have HV3 := jh (zaa HV3.out hb)
 have HV4 := jh (zaa HV4.out hb)
 have HV5 := jh (zaa HV5.out hb)
 have HV6 := jh (zaa HV6.out hb)
 have HV7 := jh (zaa HV7.out hb)
 have HR := jh (zaa HR.out hb)
 have HE := jh (HE.out.trans hb)
 clear hb
 obtain ⟨v8, hv⟩ : ∃ v, v = o100 x := ⟨_, rfl⟩
 rw [show joinL v7 50 v7 = v8 from by rw [hv, HVEv7.out]; rfl]
 have LTv8 : Hid (v8.lt 18014398509481984) := jh (by rw [hv]; exact o100_lt HX.out)
 have HVEv8 := jh hv
 clear hv
 obtain ⟨p8, hp8⟩ : ∃ p, p = w8.heap.size := ⟨_, rfl⟩
 have HV8 := jh (Blk.made w8 v8.vs 90)
 have HX1 := jh (Ext.alloc w8 (.cells v8.vs.toArray 90))
 have H1 := jh (zaa H1.out HX1.out)
 have HV1 := jh (zaa HV1.out HX1.out)
 have HV2 := jh (zaa HV2.out HX1.out)
 have HV3 := jh (zaa HV3.out HX1.out)
 have HV4 := jh (zaa HV4.out HX1.out)
 have HV5 := jh (zaa HV5.out HX1.out)
 have HV6 := jh (zaa HV6.out HX1.out)
 have HV7 := jh (zaa HV7.out HX1.out)
 have HR := jh (zaa HR.out HX1.out)
 have HE := jh (HE.out.trans HX1.out)
 rw [← hp8] at HV8
 clear HX1
 unfold L5.v L5.vs
 go_wp2_with fail
 rw [← hp8]
 change Calls _ _ #[v8.v, .int .i64 ((100 : Nat) : Int), v8.v] (w8.alloc (.cells v8.vs.toArray 90)) _
 generalize w8.alloc (.cells v8.vs.toArray 90) = y8 at *
 clear hp8
 refine (zcz v8 100 v8 LTv8.out LTv8.out (by omega) _).mono ?_
 rintro e w9 ⟨rfl, hb⟩
 have H1 := jh (zaa H1.out hb)
 have HV1 := jh (zaa HV1.out hb)
 have HV2 := jh (zaa HV2.out hb)
 have HV3 := jh (zaa HV3.out hb)
 have HV4 := jh (zaa HV4.out hb)
 have HV5 := jh (zaa HV5.out hb)
 have HV6 := jh (zaa HV6.out hb)
 have HV7 := jh (zaa HV7.out hb)
 have HV8 := jh (zaa HV8.out hb)
 have HR := jh (zaa HR.out hb)
 have HE := jh (HE.out.trans hb)
 clear hb
 obtain ⟨v9, hv⟩ : ∃ v, v = o200 x := ⟨_, rfl⟩
 rw [show joinL v8 100 v8 = v9 from by rw [hv, HVEv8.out]; rfl]
 have LTv9 : Hid (v9.lt 18014398509481984) := jh (by rw [hv]; exact o200_lt HX.out)
 have HVEv9 := jh hv
 clear hv
 obtain ⟨p9, hp9⟩ : ∃ p, p = w9.heap.size := ⟨_, rfl⟩
 have HV9 := jh (Blk.made w9 v9.vs 90)
 have HX1 := jh (Ext.alloc w9 (.cells v9.vs.toArray 90))
 have H1 := jh (zaa H1.out HX1.out)
 have HV1 := jh (zaa HV1.out HX1.out)
 have HV2 := jh (zaa HV2.out HX1.out)
 have HV3 := jh (zaa HV3.out HX1.out)
 have HV4 := jh (zaa HV4.out HX1.out)
 have HV5 := jh (zaa HV5.out HX1.out)
 have HV6 := jh (zaa HV6.out HX1.out)
 have HV7 := jh (zaa HV7.out HX1.out)
 have HV8 := jh (zaa HV8.out HX1.out)
 have HR := jh (zaa HR.out HX1.out)
 have HE := jh (HE.out.trans HX1.out)
 rw [← hp9] at HV9
 clear HX1
 have ccv70 := HV7.out.cell 0
 have ccv71 := HV7.out.cell 1
 have ccv72 := HV7.out.cell 2
 have ccv73 := HV7.out.cell 3
 have ccv74 := HV7.out.cell 4
 simp only [L5.vs, List.getElem?_cons_zero, List.getElem?_cons_succ] at ccv70 ccv71 ccv72 ccv73 ccv74
 unfold L5.v L5.vs
 go_wp2_with fail
 rw [← hp9]
 change Calls _ _ #[v9.v, .int .i64 ((50 : Nat) : Int), v7.v] (w9.alloc (.cells v9.vs.toArray 90)) _
 generalize w9.alloc (.cells v9.vs.toArray 90) = y9 at *
 clear hp9 ccv70 ccv71 ccv72 ccv73 ccv74
 refine (zcz v9 50 v7 LTv9.out LTv7.out (by omega) _).mono ?_
 rintro e w10 ⟨rfl, hb⟩
 have H1 := jh (zaa H1.out hb)
 have HV1 := jh (zaa HV1.out hb)
 have HV2 := jh (zaa HV2.out hb)
 have HV3 := jh (zaa HV3.out hb)
 have HV4 := jh (zaa HV4.out hb)
 have HV5 := jh (zaa HV5.out hb)
 have HV6 := jh (zaa HV6.out hb)
 have HV7 := jh (zaa HV7.out hb)
 have HV8 := jh (zaa HV8.out hb)
 have HV9 := jh (zaa HV9.out hb)
 have HR := jh (zaa HR.out hb)
 have HE := jh (HE.out.trans hb)
 clear hb
 obtain ⟨v10, hv⟩ : ∃ v, v = onesL x := ⟨_, rfl⟩
 rw [show joinL v9 50 v7 = v10 from by rw [hv, HVEv9.out, HVEv7.out]; rfl]
 have LTv10 : Hid (v10.lt 18014398509481984) := jh (by rw [hv]; exact onesL_lt HX.out)
 have HVEv10 := jh hv
 clear hv
 go_wp2_with (refine zac rfl _ _ _ rfl (A + 1) v10.vs rfl rfl _ _ HR.out rfl Tryz.arr90 (L5.vs_one _) ?_; intro w11 hb2 hg2)
 exact bodyPost_ret (v := v10.v) (zbk (by rfl) _ (A + 1) _ _ _ (by rfl) hb2 Tryz.underlying90 rfl Tryz.arr90) rfl ⟨by rw [HVEv10.out]; rfl, zae HE.out hg2 (by omega)⟩
theorem Inv_num (l : List UInt8) (w : World) (hl : l.length = 32) :
  Calls Tryz.prog 39 #[.agg (l.map bval).toArray] w fun e w' => e = .returned (numP ((leN l : Int) ^ (pP - 2).toNat)) ∧ Below w.heap.size w w' := by
 have HLl := jh hl
 have HIl : Hid ((Tryz.prog.info? 23).map (·.size) = some (l.map bval).length) := jh (by rw [List.length_map, hl]; exact Tryz.arr23)
 have HB := jh (boxes2 w (l.map bval) zero32 23 23)
 clear hl
 go_enter Tryz.func39, Tryz.ntmps39
 go_wp2_with (refine zab rfl _ _ rfl w.heap.size rfl _ _ _ _ HB.out.1 Tryz.underlying23 HIl.out ?_)
 change Calls _ _ _ ((w.alloc (.cells (l.map bval).toArray 23)).alloc (.cells zero32.toArray 23)) _
 generalize (w.alloc (.cells (l.map bval).toArray 23)).alloc (.cells zero32.toArray 23) = w0 at *
 obtain ⟨h1, h2, h4⟩ := HB.out
 obtain ⟨A, hA⟩ : ∃ A, A = w.heap.size := ⟨_, rfl⟩
 rw [← hA] at h1 h2 ⊢
 have hA2 : w.heap.size ≤ A := by omega
 have H1 := jh h1
 have HR := jh h2
 have HE : Hid (Ext w w0) := jh h4
 clear h1 h2 h4 HB hA
 refine (zed l HLl.out _).mono ?_
 rintro e w1 ⟨rfl, hb⟩
 have HR := jh (zaa HR.out hb)
 have HE := jh (HE.out.trans hb)
 clear hb
 obtain ⟨v1, hv⟩ : ∃ v, v = limbsL l := ⟨_, rfl⟩
 rw [← hv]
 have LT1 : Hid (v1.lt 18014398509481984) := jh (by rw [hv]; exact limbsL_lt l)
 have CV1 : Hid (Cong (v1.val : Nat) ((leN l : Int) ^ 1)) := jh (by rw [hv, ← pow1]; exact limbsL_val l HLl.out)
 clear hv
 obtain ⟨p1, hp⟩ : ∃ p, p = w1.heap.size := ⟨_, rfl⟩
 have HV1 := jh (Blk.made w1 v1.vs 90)
 have HX1 := jh (Ext.alloc w1 (.cells v1.vs.toArray 90))
 have HR := jh (zaa HR.out HX1.out)
 have HE := jh (HE.out.trans HX1.out)
 rw [← hp] at HV1
 clear HX1
 unfold L5.v L5.vs
 go_wp2_with fail
 rw [← hp]
 change Calls _ _ #[v1.v, v1.v] (w1.alloc (.cells v1.vs.toArray 90)) _
 generalize w1.alloc (.cells v1.vs.toArray 90) = y1 at *
 clear hp
 refine (times_any v1 v1 LT1.out LT1.out _).mono ?_
 rintro e w2 ⟨rfl, hb⟩
 have HR := jh (zaa HR.out hb)
 have HV1 := jh (zaa HV1.out hb)
 have HE := jh (HE.out.trans hb)
 clear hb
 obtain ⟨v2, hv⟩ : ∃ v, v = timesL v1 v1 := ⟨_, rfl⟩
 rw [← hv]
 have LT2 : Hid (v2.lt 18014398509481984) := jh (by rw [hv]; exact timesL_lt LT1.out LT1.out)
 have CV2 : Hid (Cong (v2.val : Nat) ((leN l : Int) ^ 2)) := jh (by rw [hv]; have := (timesL_val v1 v1).trans (CV1.out.mul CV1.out); rwa [← Int.pow_add] at this)
 clear hv
 obtain ⟨p2, hp⟩ : ∃ p, p = w2.heap.size := ⟨_, rfl⟩
 have HV2 := jh (Blk.made w2 v2.vs 90)
 have HX1 := jh (Ext.alloc w2 (.cells v2.vs.toArray 90))
 have HR := jh (zaa HR.out HX1.out)
 have HV1 := jh (zaa HV1.out HX1.out)
 have HE := jh (HE.out.trans HX1.out)
 rw [← hp] at HV2
 clear HX1
 unfold L5.v L5.vs
 go_wp2_with fail
 rw [← hp]
 change Code.wp _ _ _ _ (w2.alloc (.cells v2.vs.toArray 90))
 generalize w2.alloc (.cells v2.vs.toArray 90) = y2 at *
 clear hp
 refine zal 6 2 7 rfl (by kernel_rfl) (by kernel_rfl) (fun d v c a w h => by cases d <;> exact h) (by kernel_rfl) ?_
 refine zbp _ _ p2 v2.vs _ (by rfl) rfl rfl (fun w hw => zbj HV2.out hw) Tryz.underlying90 rfl Tryz.arr90 ?_
 simp only [Act.put, nrm]
 refine zaj _ _ _ [v2.v, .int .i64 2] ((sqL v2 2).v) (by rfl) rfl Tryz.call66 rfl (fun w hw => squared_any v2 2 LT2.out (by omega) w) ?_
 simp only [Act.put, nrm]
 refine zbp _ _ p2 v2.vs _ (by rfl) rfl rfl (fun w hw => zbj HV2.out hw) Tryz.underlying90 rfl Tryz.arr90 ?_
 simp only [Act.put, nrm]
 refine zaj _ _ _ [(sqL v2 2).v, v2.v] ((joinL v2 2 v2).v) (by rfl) rfl Tryz.call64 rfl (fun w hw => times_any (sqL v2 2) v2 (sqL_lt LT2.out 2) LT2.out w) ?_
 simp only [Act.put, nrm]
 refine zbp _ _ p1 v1.vs _ (by rfl) rfl rfl (fun w hw => zbj HV1.out hw) Tryz.underlying90 rfl Tryz.arr90 ?_
 simp only [Act.put, nrm]
 refine zaj _ _ _ [(joinL v2 2 v2).v, v1.v] ((timesL (joinL v2 2 v2) v1).v) (by rfl) rfl Tryz.call64 rfl (fun w hw => times_any (joinL v2 2 v2) v1 (zdq 2 LT2.out LT2.out) LT1.out w) ?_
 simp only [Act.put, nrm]
 refine zbg (end_var (k := 6) _ 5 (.tmp 16) zero5 (timesL (joinL v2 2 v2) v1).vs rfl rfl (by kernel_rfl) (by kernel_rfl) (by kernel_rfl) (by kernel_rfl) (by kernel_rfl) rfl rfl rfl rfl Tryz.zeroValue90 rfl (by simp) (fun p => rfl) rfl Tryz.arr90 (L5.vs_one _) (fun p3 w3 hp3 hb3 he3 => ?_))
 simp only [Act.put, nrm]
 have HR := jh (zaa HR.out he3)
 have HV1 := jh (zaa HV1.out he3)
 have HV2 := jh (zaa HV2.out he3)
 have HE := jh (HE.out.trans he3)
 obtain ⟨v3, hv⟩ : ∃ v, v = timesL (joinL v2 2 v2) v1 := ⟨_, rfl⟩
 rw [← hv] at hb3 ⊢
 have LT3 : Hid (v3.lt 18014398509481984) := jh (by rw [hv]; exact timesL_lt (zdq 2 LT2.out LT2.out) LT1.out)
 have CV3 : Hid (Cong (v3.val : Nat) ((leN l : Int) ^ 11)) := jh (by rw [hv]; have := (timesL_val (joinL v2 2 v2) v1).trans ((zdg 2 CV2.out CV2.out).mul CV1.out); rwa [← Int.pow_add] at this)
 clear hv
 have HV3 := jh hb3
 clear hb3 he3 hp3
 go_wp2_with fail
 refine zal 5 1 5 rfl (by kernel_rfl) (by kernel_rfl) (fun d v c a w h => by cases d <;> exact h) (by kernel_rfl) ?_
 refine zbp _ _ p1 v1.vs _ (by rfl) rfl rfl (fun w hw => zbj HV1.out hw) Tryz.underlying90 rfl Tryz.arr90 ?_
 simp only [Act.put, nrm]
 refine zaj _ _ _ [v1.v] ((onesL v1).v) (by rfl) rfl Tryz.call68 rfl (fun w hw => ones_any v1 LT1.out w) ?_
 simp only [Act.put, nrm]
 refine zbp _ _ p3 v3.vs _ (by rfl) rfl rfl (fun w hw => zbj HV3.out hw) Tryz.underlying90 rfl Tryz.arr90 ?_
 simp only [Act.put, nrm]
 refine zaj _ _ _ [(onesL v1).v, .int .i64 5, v3.v] ((joinL (onesL v1) 5 v3).v) (by rfl) rfl Tryz.call67 rfl (fun w hw => zcz (onesL v1) 5 v3 (onesL_lt LT1.out) LT3.out (by omega) w) ?_
 simp only [Act.put, nrm]
 refine zaj _ _ _ [(joinL (onesL v1) 5 v3).v] (numP ((joinL (onesL v1) 5 v3).val : Nat)) (by rfl) rfl Tryz.call63 rfl (fun w hw => numOf_any _ ((zdq 5 (onesL_lt LT1.out) LT3.out).mono (by omega)) w) ?_
 simp only [Act.put, nrm]
 have HV : numP ((joinL (onesL v1) 5 v3).val : Nat) = numP ((leN l : Int) ^ (pP - 2).toNat) := numP_cong (by
  have c1 : Cong (v1.val : Nat) (leN l : Int) := by have := CV1.out; rwa [← pow1] at this
  have := zdg 5 (onesL_val c1) CV3.out
  rwa [show (2 ^ 250 - 1) * 2 ^ 5 + 11 = (pP - 2).toNat from by decide +kernel] at this)
 rw [HV]
 refine zbg (end_set (k := 5) _ _ _ _ (A + 1) ((nb ((leN l : Int) ^ (pP - 2).toNat)).map bval) zero32 rfl (by kernel_rfl) (by kernel_rfl) (by kernel_rfl) rfl rfl rfl rfl HR.out (nb_len _) (nb_size _) (zag _) (fun w8 hb8 hg8 => ?_))
 simp only [Act.put]
 go_wp2_with fail
 exact bodyPost_ret (v := numP ((leN l : Int) ^ (pP - 2).toNat)) (zbk (by rfl) _ (A + 1) _ _ _ (by rfl) hb8 Tryz.underlying23 rfl (nb_size _)) rfl ⟨rfl, zae HE.out hg8 (by omega)⟩
theorem xor8 (a b : Nat) (ha : a < 256) (hb : b < 256) : bits .xor .u8 (a : Int) (b : Int) = ((a ^^^ b : Nat) : Int) := by
 have e1 : (BitVec.ofInt 8 (a : Int)).toNat = a := by rw [BitVec.toNat_ofInt]; omega
 have e2 : (BitVec.ofInt 8 (b : Int)).toNat = b := by rw [BitVec.toNat_ofInt]; omega
 show IntKind.u8.wrap ((BitVec.ofInt 8 (a : Int) ^^^ BitVec.ofInt 8 (b : Int)).toNat : Nat) = _
 have e3 := (BitVec.ofInt 8 (a : Int) ^^^ BitVec.ofInt 8 (b : Int)).isLt
 rw [BitVec.toNat_xor, e1, e2] at e3 ⊢
 rw [IntKind.wrap_u8]
 omega
theorem and255 (x : Nat) (hx : x < 256) : bits .and .u8 255 (x : Int) = (x : Int) := by
 have e1 : (BitVec.ofInt 8 (255 : Int)).toNat = 255 := by decide
 have e2 : (BitVec.ofInt 8 (x : Int)).toNat = x := by rw [BitVec.toNat_ofInt]; omega
 show IntKind.u8.wrap ((BitVec.ofInt 8 (255 : Int) &&& BitVec.ofInt 8 (x : Int)).toNat : Nat) = _
 have e : x &&& 255 = x % 256 := Nat.and_two_pow_sub_one_eq_mod x 8
 rw [BitVec.toNat_and, e1, e2, Nat.and_comm, e, IntKind.wrap_u8]
 omega
theorem and0 (x : Nat) (hx : x < 256) : bits .and .u8 0 (x : Int) = 0 := by
 have e1 : (BitVec.ofInt 8 (0 : Int)).toNat = 0 := by decide
 show IntKind.u8.wrap ((BitVec.ofInt 8 (0 : Int) &&& BitVec.ofInt 8 (x : Int)).toNat : Nat) = _
 rw [BitVec.toNat_and, e1, Nat.zero_and]
 rfl
theorem xor0 (a : Nat) (ha : a < 256) : bits .xor .u8 (a : Int) 0 = (a : Int) := by
 have := xor8 a 0 ha (by omega)
 rwa [Nat.xor_zero] at this
structure PickL (l s zs : List UInt8) (k : Nat) : Prop where
 len : zs.length = 32
 low : ∀ i, i < k → zs.getD i 0 = s.getD i 0
 high : ∀ i, k ≤ i → zs.getD i 0 = l.getD i 0
theorem PickL.step {l s zs : List UInt8} {k : Nat} (h : PickL l s zs k) (hk : k < 32) : PickL l s (zs.set k (s.getD k 0)) (k + 1) := by
 obtain ⟨h1, h2, h3⟩ := h
 refine ⟨by simp [h1], fun i hi => ?_, fun i hi => ?_⟩
 ·by_cases e : i = k
  ·subst e
   simp [List.getD, show i < zs.length from by omega]
  ·have := h2 i (by omega)
   simpa [List.getD, List.getElem?_set_ne (Ne.symm e)] using this
 ·have := h3 i (by omega)
  simpa [List.getD, List.getElem?_set_ne (show k ≠ i from by omega)] using this
theorem PickL.done {l s zs : List UInt8} (h : PickL l s zs 32) (hs : s.length = 32) : zs = s := by
 apply List.ext_getElem (by have := h.len; omega)
 intro i hi hi2
 have := h.low i (by omega)
 simpa [List.getD, hi, hi2] using this
theorem Pick_false (l m : List UInt8) (w : World) (hl : l.length = 32) (hm : m.length = 32) :
  Calls Tryz.prog 116 #[.agg (l.map bval).toArray, .agg (m.map bval).toArray, .bool false] w fun e w' => e = .returned (.agg (l.map bval).toArray) ∧ Below w.heap.size w w' := by
 have HLl := jh hl
 have HLm := jh hm
 have HIl : Hid ((Tryz.prog.info? 23).map (·.size) = some (l.map bval).length) := jh (by rw [List.length_map, hl]; exact Tryz.arr23)
 have HIm : Hid ((Tryz.prog.info? 23).map (·.size) = some (m.map bval).length) := jh (by rw [List.length_map, hm]; exact Tryz.arr23)
 have HB := jh (boxes3 w (l.map bval) (m.map bval) zero32 23 23 23)
 clear hl hm
 go_enter Tryz.func116, Tryz.ntmps116
 go_wp2_with fail
 change Code.wp _ _ _ _ (((w.alloc (.cells (l.map bval).toArray 23)).alloc (.cells (m.map bval).toArray 23)).alloc (.cells zero32.toArray 23))
 generalize ((w.alloc (.cells (l.map bval).toArray 23)).alloc (.cells (m.map bval).toArray 23)).alloc (.cells zero32.toArray 23) = w0 at *
 obtain ⟨h1, h2, h3, h4⟩ := HB.out
 obtain ⟨A, hA⟩ : ∃ A, A = w.heap.size := ⟨_, rfl⟩
 rw [← hA] at h1 h2 h3 ⊢
 have hA2 : w.heap.size ≤ A := by omega
 have H1 := jh h1
 have H2 := jh h2
 have H3 := jh h3
 have HE : Hid (Ext w w0) := jh h4
 clear h1 h2 h3 h4 HB hA
 obtain ⟨wo, rfl⟩ : ∃ wo : World, wo = w0 := ⟨_, rfl⟩
 go_loopw [10] (fun i wr => ∃ (k : Nat) (zs : List UInt8), k ≤ 32 ∧ i = .int .i64 k ∧ PickL l l zs k ∧ Blk wr A (zs.map bval) 23 ∧ Blk wr (A + 1) (m.map bval) 23 ∧ Blk wr (A + 1 + 1) zero32 23 ∧ Ext w wr) (fun i _ => 32 - (intOf i).toNat)
 case atStart => exact ⟨0, l, by omega, rfl, ⟨HLl.out, fun i hi => by omega, fun i _ => rfl⟩, H1.out, H2.out, H3.out, HE.out⟩
 case round =>
  clear H1 H2 H3 HE
  obtain ⟨k, zs, hk, rfl, hs, hb1, hb2, hb3, hbe⟩ := hrel
  have i0' : (0 : Int) ≤ (k : Int) := Int.natCast_nonneg _
  have hl5 := hs.len
  by_cases hlt : k < 32
  ·have i1 : (k : Int) < 32 := by omega
   have e1 := hb1.cell k
   rw [zbb (by omega), hs.high k (Nat.le_refl _)] at e1
   have e2 := hb2.cell k
   rw [zbb (by have := HLm.out; omega)] at e2
   have f1 := hb1.free k
   have b1 := (l.getD k 0).toNat_lt
   have b2 := (m.getD k 0).toNat_lt
   have hst := hs.step hlt
   have hv : bval (l.getD k 0) = .int .u8 ((l.getD k 0).toNat : Int) := rfl
   have HBV := jh hv
   clear hv
   generalize hga : (l.getD k 0).toNat = a at *
   generalize hgb : (m.getD k 0).toNat = b at *
   have q1 : bits .xor .u8 (a : Int) (b : Int) = ((a ^^^ b : Nat) : Int) := xor8 a b b1 b2
   have q2 : bits .and .u8 0 ((a ^^^ b : Nat) : Int) = 0 := and0 _ (Nat.xor_lt_two_pow (n := 8) b1 b2)
   have q3 : bits .xor .u8 (a : Int) 0 = (a : Int) := xor0 a b1
   generalize a ^^^ b = x at *
   have HST := jh hst
   have HB1 := jh hb1
   have HB2 := jh hb2
   have HB3 := jh hb3
   have HBE := jh hbe
   clear hs hst hb1 hb2 hb3 hbe hl5 b1 b2 hga hgb
   go_wp2_with fail
   go_region
   go_wp2_with fail
   go_roundw
   case rel =>
    refine ⟨k + 1, _, by omega, by go_num, HST.out, ?_, HB2.out.far (by simp) _, HB3.out.far (by simp; omega) _, (Below.setCell HBE.out (by simp; omega) _).drew⟩
    rw [List.map_set, HBV.out]
    exact HB1.out.set k _
   case measure => simp [intOf]; omega
  ·have hk' : k = 32 := by omega
   subst hk'
   have hd := hs.done HLl.out
   rw [hd] at hb1
   have HB1 := jh hb1
   have HB3 := jh hb3
   have HBE := jh hbe
   clear hb1 hb2 hb3 hbe hs hl5
   go_wp2_with (first | (refine zab rfl _ _ rfl A rfl _ _ _ _ HB1.out Tryz.underlying23 HIl.out ?_) | (refine zac rfl _ _ _ rfl (A + 1 + 1) (l.map bval) rfl rfl _ _ HB3.out (by rw [List.length_map, HLl.out]; rfl) HIl.out (zag _) ?_; intro w5 hb5 hg5))
   exact bodyPost_ret (v := .agg (l.map bval).toArray) (zbk (by rfl) _ (A + 1 + 1) _ _ _ (by rfl) hb5 Tryz.underlying23 rfl HIl.out) rfl ⟨rfl, zae HBE.out hg5 (by omega)⟩
theorem Pick_true (l m : List UInt8) (w : World) (hl : l.length = 32) (hm : m.length = 32) :
  Calls Tryz.prog 116 #[.agg (l.map bval).toArray, .agg (m.map bval).toArray, .bool true] w fun e w' => e = .returned (.agg (m.map bval).toArray) ∧ Below w.heap.size w w' := by
 have HLl := jh hl
 have HLm := jh hm
 have HIl : Hid ((Tryz.prog.info? 23).map (·.size) = some (l.map bval).length) := jh (by rw [List.length_map, hl]; exact Tryz.arr23)
 have HIm : Hid ((Tryz.prog.info? 23).map (·.size) = some (m.map bval).length) := jh (by rw [List.length_map, hm]; exact Tryz.arr23)
 have HB := jh (boxes3 w (l.map bval) (m.map bval) zero32 23 23 23)
 clear hl hm
 go_enter Tryz.func116, Tryz.ntmps116
 go_wp2_with fail
 change Code.wp _ _ _ _ (((w.alloc (.cells (l.map bval).toArray 23)).alloc (.cells (m.map bval).toArray 23)).alloc (.cells zero32.toArray 23))
 generalize ((w.alloc (.cells (l.map bval).toArray 23)).alloc (.cells (m.map bval).toArray 23)).alloc (.cells zero32.toArray 23) = w0 at *
 obtain ⟨h1, h2, h3, h4⟩ := HB.out
 obtain ⟨A, hA⟩ : ∃ A, A = w.heap.size := ⟨_, rfl⟩
 rw [← hA] at h1 h2 h3 ⊢
 have hA2 : w.heap.size ≤ A := by omega
 have H1 := jh h1
 have H2 := jh h2
 have H3 := jh h3
 have HE : Hid (Ext w w0) := jh h4
 clear h1 h2 h3 h4 HB hA
 obtain ⟨wo, rfl⟩ : ∃ wo : World, wo = w0 := ⟨_, rfl⟩
 go_loopw [10] (fun i wr => ∃ (k : Nat) (zs : List UInt8), k ≤ 32 ∧ i = .int .i64 k ∧ PickL l m zs k ∧ Blk wr A (zs.map bval) 23 ∧ Blk wr (A + 1) (m.map bval) 23 ∧ Blk wr (A + 1 + 1) zero32 23 ∧ Ext w wr) (fun i _ => 32 - (intOf i).toNat)
 case atStart => exact ⟨0, l, by omega, rfl, ⟨HLl.out, fun i hi => by omega, fun i _ => rfl⟩, H1.out, H2.out, H3.out, HE.out⟩
 case round =>
  clear H1 H2 H3 HE
  obtain ⟨k, zs, hk, rfl, hs, hb1, hb2, hb3, hbe⟩ := hrel
  have i0' : (0 : Int) ≤ (k : Int) := Int.natCast_nonneg _
  have hl5 := hs.len
  by_cases hlt : k < 32
  ·have i1 : (k : Int) < 32 := by omega
   have e1 := hb1.cell k
   rw [zbb (by omega), hs.high k (Nat.le_refl _)] at e1
   have e2 := hb2.cell k
   rw [zbb (by have := HLm.out; omega)] at e2
   have f1 := hb1.free k
   have b1 := (l.getD k 0).toNat_lt
   have b2 := (m.getD k 0).toNat_lt
   have hst := hs.step hlt
   have hv : bval (m.getD k 0) = .int .u8 ((m.getD k 0).toNat : Int) := rfl
   have HBV := jh hv
   clear hv
   generalize hga : (l.getD k 0).toNat = a at *
   generalize hgb : (m.getD k 0).toNat = b at *
   have q0 : IntKind.u8.wrap (-1) = 255 := by rfl
   have q1 : bits .xor .u8 (a : Int) (b : Int) = ((a ^^^ b : Nat) : Int) := xor8 a b b1 b2
   have q2 : bits .and .u8 255 ((a ^^^ b : Nat) : Int) = ((a ^^^ b : Nat) : Int) := and255 _ (Nat.xor_lt_two_pow (n := 8) b1 b2)
   have q3 : bits .xor .u8 (a : Int) ((a ^^^ b : Nat) : Int) = (b : Int) := by
    rw [xor8 a _ b1 (Nat.xor_lt_two_pow (n := 8) b1 b2), ← Nat.xor_assoc, Nat.xor_self, Nat.zero_xor]
   generalize a ^^^ b = x at *
   have HST := jh hst
   have HB1 := jh hb1
   have HB2 := jh hb2
   have HB3 := jh hb3
   have HBE := jh hbe
   clear hs hst hb1 hb2 hb3 hbe hl5 b1 b2 hga hgb
   go_wp2_with fail
   go_region
   go_wp2_with fail
   go_roundw
   case rel =>
    refine ⟨k + 1, _, by omega, by go_num, HST.out, ?_, HB2.out.far (by simp) _, HB3.out.far (by simp; omega) _, (Below.setCell HBE.out (by simp; omega) _).drew⟩
    rw [List.map_set, HBV.out]
    exact HB1.out.set k _
   case measure => simp [intOf]; omega
  ·have hk' : k = 32 := by omega
   subst hk'
   have hd := hs.done HLm.out
   rw [hd] at hb1
   have HB1 := jh hb1
   have HB3 := jh hb3
   have HBE := jh hbe
   clear hb1 hb2 hb3 hbe hs hl5
   go_wp2_with (first | (refine zab rfl _ _ rfl A rfl _ _ _ _ HB1.out Tryz.underlying23 HIm.out ?_) | (refine zac rfl _ _ _ rfl (A + 1 + 1) (m.map bval) rfl rfl _ _ HB3.out (by rw [List.length_map, HLm.out]; rfl) HIm.out (zag _) ?_; intro w5 hb5 hg5))
   exact bodyPost_ret (v := .agg (m.map bval).toArray) (zbk (by rfl) _ (A + 1 + 1) _ _ _ (by rfl) hb5 Tryz.underlying23 rfl HIm.out) rfl ⟨rfl, zae HBE.out hg5 (by omega)⟩
theorem Pick_num (l m : List UInt8) (s : Bool) (w : World) (hl : l.length = 32) (hm : m.length = 32) :
  Calls Tryz.prog 116 #[.agg (l.map bval).toArray, .agg (m.map bval).toArray, .bool s] w fun e w' => e = .returned (.agg ((if s then m else l).map bval).toArray) ∧ Below w.heap.size w w' := by
 cases s with
 | false => exact Pick_false l m w hl hm
 | true => exact Pick_true l m w hl hm
theorem fmul_f {l m : List UInt8} {f g : Fp} (w : World) (hl : F32 l f) (hm : F32 m g) : Calls Tryz.prog 38 #[.agg (l.map bval).toArray, .agg (m.map bval).toArray] w fun e w' => e = .returned (.agg ((nbF (f * g)).map bval).toArray) ∧ Below w.heap.size w w' := by
 refine (Mul_num l m w hl.1 hm.1).mono ?_
 rintro e w' ⟨rfl, hb⟩
 exact ⟨by rw [nb_nbF, fp_mul, hl.2, hm.2], hb⟩
theorem fadd_f {l m : List UInt8} {f g : Fp} (w : World) (hl : F32 l f) (hm : F32 m g) : Calls Tryz.prog 93 #[.agg (l.map bval).toArray, .agg (m.map bval).toArray] w fun e w' => e = .returned (.agg ((nbF (f + g)).map bval).toArray) ∧ Below w.heap.size w w' := by
 refine (Add_num l m w hl.1 hm.1).mono ?_
 rintro e w' ⟨rfl, hb⟩
 exact ⟨by rw [nb_nbF, fp_add, hl.2, hm.2], hb⟩
theorem fsub_f {l m : List UInt8} {f g : Fp} (w : World) (hl : F32 l f) (hm : F32 m g) : Calls Tryz.prog 92 #[.agg (l.map bval).toArray, .agg (m.map bval).toArray] w fun e w' => e = .returned (.agg ((nbF (f - g)).map bval).toArray) ∧ Below w.heap.size w w' := by
 refine (Sub_num l m w hl.1 hm.1).mono ?_
 rintro e w' ⟨rfl, hb⟩
 exact ⟨by rw [nb_nbF, fp_sub, hl.2, hm.2], hb⟩
theorem finv_f {l : List UInt8} {f : Fp} (w : World) (hl : F32 l f) : Calls Tryz.prog 39 #[.agg (l.map bval).toArray] w fun e w' => e = .returned (.agg ((nbF (fi f)).map bval).toArray) ∧ Below w.heap.size w w' := by
 refine (Inv_num l w hl.1).mono ?_
 rintro e w' ⟨rfl, hb⟩
 refine ⟨?_, hb⟩
 rw [nb_nbF, ← hl.2, fi_fp]
 rfl
theorem fpick_f {l m : List UInt8} (s : Bool) (w : World) (hl : l.length = 32) (hm : m.length = 32) : Calls Tryz.prog 116 #[.agg (l.map bval).toArray, .agg (m.map bval).toArray, .bool s] w fun e w' => e = .returned (.agg ((pkL s l m).map bval).toArray) ∧ Below w.heap.size w w' := Pick_num l m s w hl hm
def sumX (ax az bx bz : Fp) : Fp := ((ax - az) * (bx + bz) + (ax + az) * (bx - bz)) * ((ax - az) * (bx + bz) + (ax + az) * (bx - bz))
def sumZ (ax az bx bz u : Fp) : Fp := u * (((ax - az) * (bx + bz) - (ax + az) * (bx - bz)) * ((ax - az) * (bx + bz) - (ax + az) * (bx - bz)))
def dblX (x z : Fp) : Fp := (x + z) * (x + z) * ((x - z) * (x - z))
def dblZ (x z : Fp) : Fp := ((x + z) * (x + z) - (x - z) * (x - z)) * ((x + z) * (x + z) + fp 121665 * ((x + z) * (x + z) - (x - z) * (x - z)))
def cB : List UInt8 := [65, 219, 1] ++ List.replicate 29 0
theorem cB_f : F32 cB (fp 121665) := by
 refine ⟨by simp [cB], ?_⟩
 have h : leN cB = 121665 := by decide +kernel
 rw [h]
 rfl
theorem build_c (w : World) : (Instr.build 23 #[(0, .int .u8 65), (1, .int .u8 219), (2, .int .u8 1)]).run Tryz.prog w = .ok (.agg (cB.map bval).toArray) w := by
 refine run_build w _ _ _ ?_
 kernel_rfl
theorem lsq_f {a : List UInt8} {f : Fp} (w : World) (ha : F32 a f) : Calls Tryz.prog 94 #[.agg (a.map bval).toArray] w fun e w' => e = .returned (.agg ((nbF (f * f)).map bval).toArray) ∧ Below w.heap.size w w' := by
 have Ha := jh ha
 clear ha
 have HB := jh (boxes2 w ((a).map bval) (ints .u8 (List.replicate 32 0)) 23 23)
 go_enter Tryz.func94, Tryz.ntmps94
 go_upto_region 1 with (fail)
 obtain ⟨H1, H2, HE⟩ := HB.out
 change Code.wp _ _ _ _ (World.alloc (World.alloc w (.cells ((a).map bval).toArray 23)) (.cells (ints .u8 (List.replicate 32 0)).toArray 23))
 generalize (World.alloc (World.alloc w (.cells ((a).map bval).toArray 23)) (.cells (ints .u8 (List.replicate 32 0)).toArray 23)) = wa at *
 obtain ⟨A, hA⟩ : ∃ A, A = w.heap.size := ⟨_, rfl⟩
 have HAW : Hid (w.heap.size ≤ A) := jh (by omega)
 rw [← hA] at H1 H2 ⊢
 have H1 := jh H1
 have H2 := jh H2
 have HE : Hid (Ext w wa) := jh HE
 clear hA HB
 go_wp2_with (first | (refine zab rfl _ _ rfl A rfl _ _ _ _ H1.out Tryz.underlying23 (zaf Ha.out.1) ?_))
 refine (fmul_f _ Ha.out Ha.out).mono ?_
 rintro e w5 ⟨rfl, hb⟩
 have H2 := jh (zaa H2.out hb)
 have HE := jh (HE.out.trans hb)
 have HZ := jh (zay (f * f))
 obtain ⟨z, hz⟩ : ∃ z, z = nbF (f * f) := ⟨_, rfl⟩
 rw [← hz] at HZ ⊢
 have HZQ := jh hz
 clear hz
 have HL : Hid ((z.map bval).length = (ints .u8 (List.replicate 32 0)).length) := jh (by rw [List.length_map, HZ.out]; rfl)
 go_wp2_with (refine zac rfl _ _ _ rfl (A + 1) (z.map bval) rfl rfl _ _ H2.out HL.out (zaf HZ.out) (zag _) ?_; intro w8 hb8 hg8)
 exact bodyPost_ret (zbk (by rfl) _ (A + 1) _ _ _ (by rfl) hb8 Tryz.underlying23 rfl (zaf HZ.out)) rfl ⟨by rw [HZQ.out], zae HE.out hg8 (by have := HAW.out; omega)⟩
theorem lpickp_any {ax az bx bz : List UInt8} (s : Bool) (w : World) (hax : F32 ax (fp (leN ax))) (haz : F32 az (fp (leN az))) (hbx : F32 bx (fp (leN bx))) (hbz : F32 bz (fp (leN bz))) : Calls Tryz.prog 95 #[.agg (ptN ax az).toArray, .agg (ptN bx bz).toArray, .bool s] w fun e w' => e = .returned (.agg (ptN (pkL s ax bx) (pkL s az bz)).toArray) ∧ Below w.heap.size w w' := by
 have Hax := jh hax
 have Haz := jh haz
 have Hbx := jh hbx
 have Hbz := jh hbz
 clear hax haz hbx hbz
 have HX : Hid (F32 (pkL s ax bx) (if s then fp (leN bx) else fp (leN ax))) := jh (F32.pk s Hax.out Hbx.out)
 have HZ : Hid (F32 (pkL s az bz) (if s then fp (leN bz) else fp (leN az))) := jh (F32.pk s Haz.out Hbz.out)
 have HB := jh (boxes3 w (ptN ax az) (ptN bx bz) zpt 63 63 63)
 go_enter Tryz.func95, Tryz.ntmps95
 go_upto_region 1 with (fail)
 obtain ⟨H1, H2, H3, HE⟩ := HB.out
 change Code.wp _ _ _ _ (World.alloc (World.alloc (World.alloc w (.cells (ptN ax az).toArray 63)) (.cells (ptN bx bz).toArray 63)) (.cells zpt.toArray 63))
 generalize (World.alloc (World.alloc (World.alloc w (.cells (ptN ax az).toArray 63)) (.cells (ptN bx bz).toArray 63)) (.cells zpt.toArray 63)) = wa at *
 obtain ⟨A, hA⟩ : ∃ A, A = w.heap.size := ⟨_, rfl⟩
 have HAW : Hid (w.heap.size ≤ A) := jh (by omega)
 rw [← hA] at H1 H2 H3 ⊢
 have H1 := jh H1
 have H2 := jh H2
 have H3 := jh H3
 have HE : Hid (Ext w wa) := jh HE
 clear hA HB
 go_wp2_with fail
 refine zal 13 1 13 rfl (by kernel_rfl) (by kernel_rfl) (fun d v c a w h => by cases d <;> exact h) (by kernel_rfl) ?_
 refine zbc _ _ A _ 0 0 (by rfl) rfl rfl (fun w => by go_simp) ?_
 simp only [Act.put, nrm]
 refine zax _ _ A 0 ((ax).map bval) _ (by rfl) rfl rfl (fun w hw => ptN_x ((zaa H1.out hw).range)) Tryz.underlying23 rfl (zaf Hax.out.1) ?_
 simp only [Act.put, nrm]
 refine zbc _ _ (A + 1) _ 0 0 (by rfl) rfl rfl (fun w => by go_simp) ?_
 simp only [Act.put, nrm]
 refine zax _ _ (A + 1) 0 ((bx).map bval) _ (by rfl) rfl rfl (fun w hw => ptN_x ((zaa H2.out hw).range)) Tryz.underlying23 rfl (zaf Hbx.out.1) ?_
 simp only [Act.put, nrm]
 refine zba _ (.bool s) (by rfl) rfl rfl ?_
 simp only [Act.put, nrm]
 refine zaj _ _ _ [.agg ((ax).map bval).toArray, .agg ((bx).map bval).toArray, .bool s] (.agg ((pkL s ax bx).map bval).toArray) (by rfl) rfl Tryz.call116 rfl (fun w hw => fpick_f s w Hax.out.1 Hbx.out.1) ?_
 simp only [Act.put, nrm]
 refine zbc _ _ A _ 0 32 (by rfl) rfl rfl (fun w => by go_simp) ?_
 simp only [Act.put, nrm]
 refine zax _ _ A 32 ((az).map bval) _ (by rfl) rfl rfl (fun w hw => ptN_z ((zaa H1.out hw).range) Hax.out.1 rfl) Tryz.underlying23 rfl (zaf Haz.out.1) ?_
 simp only [Act.put, nrm]
 refine zbc _ _ (A + 1) _ 0 32 (by rfl) rfl rfl (fun w => by go_simp) ?_
 simp only [Act.put, nrm]
 refine zax _ _ (A + 1) 32 ((bz).map bval) _ (by rfl) rfl rfl (fun w hw => ptN_z ((zaa H2.out hw).range) Hbx.out.1 rfl) Tryz.underlying23 rfl (zaf Hbz.out.1) ?_
 simp only [Act.put, nrm]
 refine zba _ (.bool s) (by rfl) rfl rfl ?_
 simp only [Act.put, nrm]
 refine zaj _ _ _ [.agg ((az).map bval).toArray, .agg ((bz).map bval).toArray, .bool s] (.agg ((pkL s az bz).map bval).toArray) (by rfl) rfl Tryz.call116 rfl (fun w hw => fpick_f s w Haz.out.1 Hbz.out.1) ?_
 simp only [Act.put, nrm]
 refine det_build _ _ #[(0, .agg ((pkL s ax bx).map bval).toArray), (1, .agg ((pkL s az bz).map bval).toArray)] (.agg (ptN (pkL s ax bx) (pkL s az bz)).toArray) (by rfl) rfl (by simp [Act.eval]) (build_ptN HX.out.1 HZ.out.1) ?_
 simp only [Act.put, nrm]
 refine zbg (end_set (k := 13) _ _ _ _ (A + 1 + 1) (ptN (pkL s ax bx) (pkL s az bz)) zpt rfl (by kernel_rfl) (by kernel_rfl) (by kernel_rfl) rfl rfl rfl rfl H3.out ((zdp HX.out.1 HZ.out.1).trans zpt_length.symm) (zcp HX.out.1 HZ.out.1) (ptN_one _ _) (fun w8 hb8 hg8 => ?_))
 simp only [Act.put]
 go_wp2_with fail
 exact bodyPost_ret (zbk (by rfl) _ (A + 1 + 1) _ _ _ (by rfl) hb8 Tryz.underlying63 rfl (zcp HX.out.1 HZ.out.1)) rfl ⟨rfl, zae HE.out hg8 (by have := HAW.out; omega)⟩
theorem lpick_any {a b c d p q r t : List UInt8} (s : Bool) (w : World) (ha : F32 a (fp (leN a))) (hb : F32 b (fp (leN b))) (hc : F32 c (fp (leN c))) (hd : F32 d (fp (leN d))) (hp : F32 p (fp (leN p))) (hq : F32 q (fp (leN q))) (hr : F32 r (fp (leN r))) (ht : F32 t (fp (leN t))) : Calls Tryz.prog 61 #[.agg (rgN a b c d).toArray, .agg (rgN p q r t).toArray, .bool s] w fun e w' => e = .returned (.agg (rgN (pkL s a p) (pkL s b q) (pkL s c r) (pkL s d t)).toArray) ∧ Below w.heap.size w w' := by
 have Ha := jh ha
 have Hb := jh hb
 have Hc := jh hc
 have Hd := jh hd
 have Hp := jh hp
 have Hq := jh hq
 have Hr := jh hr
 have Ht := jh ht
 clear ha hb hc hd hp hq hr ht
 have HXa : Hid (F32 (pkL s a p) (if s then fp (leN p) else fp (leN a))) := jh (F32.pk s Ha.out Hp.out)
 have HXb : Hid (F32 (pkL s b q) (if s then fp (leN q) else fp (leN b))) := jh (F32.pk s Hb.out Hq.out)
 have HXc : Hid (F32 (pkL s c r) (if s then fp (leN r) else fp (leN c))) := jh (F32.pk s Hc.out Hr.out)
 have HXd : Hid (F32 (pkL s d t) (if s then fp (leN t) else fp (leN d))) := jh (F32.pk s Hd.out Ht.out)
 have HB := jh (boxes3 w (rgN a b c d) (rgN p q r t) zrg 65 65 65)
 go_enter Tryz.func61, Tryz.ntmps61
 go_upto_region 1 with (fail)
 obtain ⟨H1, H2, H3, HE⟩ := HB.out
 change Code.wp _ _ _ _ (World.alloc (World.alloc (World.alloc w (.cells (rgN a b c d).toArray 65)) (.cells (rgN p q r t).toArray 65)) (.cells zrg.toArray 65))
 generalize (World.alloc (World.alloc (World.alloc w (.cells (rgN a b c d).toArray 65)) (.cells (rgN p q r t).toArray 65)) (.cells zrg.toArray 65)) = wa at *
 obtain ⟨A, hA⟩ : ∃ A, A = w.heap.size := ⟨_, rfl⟩
 have HAW : Hid (w.heap.size ≤ A) := jh (by omega)
 rw [← hA] at H1 H2 H3 ⊢
 have H1 := jh H1
 have H2 := jh H2
 have H3 := jh H3
 have HE : Hid (Ext w wa) := jh HE
 clear hA HB
 go_wp2_with fail
 refine zal 13 1 13 rfl (by kernel_rfl) (by kernel_rfl) (fun d v c a w h => by cases d <;> exact h) (by kernel_rfl) ?_
 refine zbc _ _ A _ 0 0 (by rfl) rfl rfl (fun w => by go_simp) ?_
 simp only [Act.put, nrm]
 refine zax _ _ A 0 (ptN a b) _ (by rfl) rfl rfl (fun w hw => rgN_lo ((zaa H1.out hw).range)) Tryz.underlying63 rfl (zcp Ha.out.1 Hb.out.1) ?_
 simp only [Act.put, nrm]
 refine zbc _ _ (A + 1) _ 0 0 (by rfl) rfl rfl (fun w => by go_simp) ?_
 simp only [Act.put, nrm]
 refine zax _ _ (A + 1) 0 (ptN p q) _ (by rfl) rfl rfl (fun w hw => rgN_lo ((zaa H2.out hw).range)) Tryz.underlying63 rfl (zcp Hp.out.1 Hq.out.1) ?_
 simp only [Act.put, nrm]
 refine zba _ (.bool s) (by rfl) rfl rfl ?_
 simp only [Act.put, nrm]
 refine zaj _ _ _ [.agg (ptN a b).toArray, .agg (ptN p q).toArray, .bool s] (.agg (ptN (pkL s a p) (pkL s b q)).toArray) (by rfl) rfl Tryz.call95 rfl (fun w hw => lpickp_any s w Ha.out Hb.out Hp.out Hq.out) ?_
 simp only [Act.put, nrm]
 refine zbc _ _ A _ 0 64 (by rfl) rfl rfl (fun w => by go_simp) ?_
 simp only [Act.put, nrm]
 refine zax _ _ A 64 (ptN c d) _ (by rfl) rfl rfl (fun w hw => rgN_hi ((zaa H1.out hw).range) Ha.out.1 Hb.out.1 rfl) Tryz.underlying63 rfl (zcp Hc.out.1 Hd.out.1) ?_
 simp only [Act.put, nrm]
 refine zbc _ _ (A + 1) _ 0 64 (by rfl) rfl rfl (fun w => by go_simp) ?_
 simp only [Act.put, nrm]
 refine zax _ _ (A + 1) 64 (ptN r t) _ (by rfl) rfl rfl (fun w hw => rgN_hi ((zaa H2.out hw).range) Hp.out.1 Hq.out.1 rfl) Tryz.underlying63 rfl (zcp Hr.out.1 Ht.out.1) ?_
 simp only [Act.put, nrm]
 refine zba _ (.bool s) (by rfl) rfl rfl ?_
 simp only [Act.put, nrm]
 refine zaj _ _ _ [.agg (ptN c d).toArray, .agg (ptN r t).toArray, .bool s] (.agg (ptN (pkL s c r) (pkL s d t)).toArray) (by rfl) rfl Tryz.call95 rfl (fun w hw => lpickp_any s w Hc.out Hd.out Hr.out Ht.out) ?_
 simp only [Act.put, nrm]
 refine det_build _ _ #[(0, .agg (ptN (pkL s a p) (pkL s b q)).toArray), (1, .agg (ptN (pkL s c r) (pkL s d t)).toArray)] (.agg (rgN (pkL s a p) (pkL s b q) (pkL s c r) (pkL s d t)).toArray) (by rfl) rfl (by simp [Act.eval]) (build_rgN HXa.out.1 HXb.out.1 HXc.out.1 HXd.out.1) ?_
 simp only [Act.put, nrm]
 refine zbg (end_set (k := 13) _ _ _ _ (A + 1 + 1) (rgN (pkL s a p) (pkL s b q) (pkL s c r) (pkL s d t)) zrg rfl (by kernel_rfl) (by kernel_rfl) (by kernel_rfl) rfl rfl rfl rfl H3.out ((rgN_length HXa.out.1 HXb.out.1 HXc.out.1 HXd.out.1).trans zrg_length.symm) (rgN_size HXa.out.1 HXb.out.1 HXc.out.1 HXd.out.1) (rgN_one _ _ _ _) (fun w8 hb8 hg8 => ?_))
 simp only [Act.put]
 go_wp2_with fail
 exact bodyPost_ret (zbk (by rfl) _ (A + 1 + 1) _ _ _ (by rfl) hb8 Tryz.underlying65 rfl (rgN_size HXa.out.1 HXb.out.1 HXc.out.1 HXd.out.1)) rfl ⟨rfl, zae HE.out hg8 (by have := HAW.out; omega)⟩
theorem lsum_f {ax az bx bz u : List UInt8} {fax faz fbx fbz fu : Fp} (w : World) (hax : F32 ax fax) (haz : F32 az faz) (hbx : F32 bx fbx) (hbz : F32 bz fbz) (hu : F32 u fu) : Calls Tryz.prog 60 #[.agg (ptN ax az).toArray, .agg (ptN bx bz).toArray, .agg (u.map bval).toArray] w fun e w' => e = .returned (.agg (ptN (nbF (sumX fax faz fbx fbz)) (nbF (sumZ fax faz fbx fbz fu))).toArray) ∧ Below w.heap.size w w' := by
 have Hax := jh hax
 have Haz := jh haz
 have Hbx := jh hbx
 have Hbz := jh hbz
 have Hu := jh hu
 clear hax haz hbx hbz hu
 have HB := jh (boxes4 w (ptN ax az) (ptN bx bz) ((u).map bval) zpt 63 63 23 63)
 go_enter Tryz.func60, Tryz.ntmps60
 go_upto_region 1 with (fail)
 obtain ⟨H1, H2, H3, H4, HE⟩ := HB.out
 change Code.wp _ _ _ _ (World.alloc (World.alloc (World.alloc (World.alloc w (.cells (ptN ax az).toArray 63)) (.cells (ptN bx bz).toArray 63)) (.cells ((u).map bval).toArray 23)) (.cells zpt.toArray 63))
 generalize (World.alloc (World.alloc (World.alloc (World.alloc w (.cells (ptN ax az).toArray 63)) (.cells (ptN bx bz).toArray 63)) (.cells ((u).map bval).toArray 23)) (.cells zpt.toArray 63)) = wa at *
 obtain ⟨A, hA⟩ : ∃ A, A = w.heap.size := ⟨_, rfl⟩
 have HAW : Hid (w.heap.size ≤ A) := jh (by omega)
 rw [← hA] at H1 H2 H3 H4 ⊢
 have H1 := jh H1
 have H2 := jh H2
 have H3 := jh H3
 have H4 := jh H4
 have HE : Hid (Ext w wa) := jh HE
 clear hA HB
 go_wp2_with fail
 refine zal 11 2 12 rfl (by kernel_rfl) (by kernel_rfl) (fun d v c a w h => by cases d <;> exact h) (by kernel_rfl) ?_
 refine zbc _ _ A _ 0 0 (by rfl) rfl rfl (fun w => by go_simp) ?_
 simp only [Act.put, nrm]
 refine zax _ _ A 0 ((ax).map bval) _ (by rfl) rfl rfl (fun w hw => ptN_x ((zaa H1.out hw).range)) Tryz.underlying23 rfl (zaf Hax.out.1) ?_
 simp only [Act.put, nrm]
 refine zbc _ _ A _ 0 32 (by rfl) rfl rfl (fun w => by go_simp) ?_
 simp only [Act.put, nrm]
 refine zax _ _ A 32 ((az).map bval) _ (by rfl) rfl rfl (fun w hw => ptN_z ((zaa H1.out hw).range) Hax.out.1 rfl) Tryz.underlying23 rfl (zaf Haz.out.1) ?_
 simp only [Act.put, nrm]
 refine zaj _ _ _ [.agg ((ax).map bval).toArray, .agg ((az).map bval).toArray] (.agg ((nbF (fax - faz)).map bval).toArray) (by rfl) rfl Tryz.call92 rfl (fun w hw => fsub_f w Hax.out Haz.out) ?_
 simp only [Act.put, nrm]
 refine zbc _ _ (A + 1) _ 0 0 (by rfl) rfl rfl (fun w => by go_simp) ?_
 simp only [Act.put, nrm]
 refine zax _ _ (A + 1) 0 ((bx).map bval) _ (by rfl) rfl rfl (fun w hw => ptN_x ((zaa H2.out hw).range)) Tryz.underlying23 rfl (zaf Hbx.out.1) ?_
 simp only [Act.put, nrm]
 refine zbc _ _ (A + 1) _ 0 32 (by rfl) rfl rfl (fun w => by go_simp) ?_
 simp only [Act.put, nrm]
 refine zax _ _ (A + 1) 32 ((bz).map bval) _ (by rfl) rfl rfl (fun w hw => ptN_z ((zaa H2.out hw).range) Hbx.out.1 rfl) Tryz.underlying23 rfl (zaf Hbz.out.1) ?_
 simp only [Act.put, nrm]
 refine zaj _ _ _ [.agg ((bx).map bval).toArray, .agg ((bz).map bval).toArray] (.agg ((nbF (fbx + fbz)).map bval).toArray) (by rfl) rfl Tryz.call93 rfl (fun w hw => fadd_f w Hbx.out Hbz.out) ?_
 simp only [Act.put, nrm]
 refine zaj _ _ _ [.agg ((nbF (fax - faz)).map bval).toArray, .agg ((nbF (fbx + fbz)).map bval).toArray] (.agg ((nbF ((fax - faz) * (fbx + fbz))).map bval).toArray) (by rfl) rfl Tryz.call38 rfl (fun w hw => fmul_f w (F32.nb _) (F32.nb _)) ?_
 simp only [Act.put, nrm]
 refine zbg (end_var (k := 11) _ 7 (.tmp 19) (ints .u8 (List.replicate 32 0)) ((nbF ((fax - faz) * (fbx + fbz))).map bval) rfl rfl (by kernel_rfl) (by kernel_rfl) (by kernel_rfl) (by kernel_rfl) (by kernel_rfl) rfl rfl rfl rfl (fun w => by rw [Tryz.zeroValue23]; rfl) rfl (by simp) (fun p => rfl) (by rw [List.length_map, (F32.nb _).1]; rfl) (zaf (F32.nb _).1) (zag _) (fun pc wc hp hb he => ?_))
 try simp only [Act.put, nrm]
 have H1 := jh (zaa H1.out he)
 have H2 := jh (zaa H2.out he)
 have H3 := jh (zaa H3.out he)
 have H4 := jh (zaa H4.out he)
 have HE := jh (HE.out.trans he)
 obtain ⟨cr, hq⟩ : ∃ q, q = (fax - faz) * (fbx + fbz) := ⟨_, rfl⟩
 rw [← hq] at hb
 have HQcr := jh hq
 clear hq
 have HVc := jh hb
 clear hb he hp
 go_wp2_with fail
 refine zal 11 2 12 rfl (by kernel_rfl) (by kernel_rfl) (fun d v c a w h => by cases d <;> exact h) (by kernel_rfl) ?_
 refine zbc _ _ A _ 0 0 (by rfl) rfl rfl (fun w => by go_simp) ?_
 simp only [Act.put, nrm]
 refine zax _ _ A 0 ((ax).map bval) _ (by rfl) rfl rfl (fun w hw => ptN_x ((zaa H1.out hw).range)) Tryz.underlying23 rfl (zaf Hax.out.1) ?_
 simp only [Act.put, nrm]
 refine zbc _ _ A _ 0 32 (by rfl) rfl rfl (fun w => by go_simp) ?_
 simp only [Act.put, nrm]
 refine zax _ _ A 32 ((az).map bval) _ (by rfl) rfl rfl (fun w hw => ptN_z ((zaa H1.out hw).range) Hax.out.1 rfl) Tryz.underlying23 rfl (zaf Haz.out.1) ?_
 simp only [Act.put, nrm]
 refine zaj _ _ _ [.agg ((ax).map bval).toArray, .agg ((az).map bval).toArray] (.agg ((nbF (fax + faz)).map bval).toArray) (by rfl) rfl Tryz.call93 rfl (fun w hw => fadd_f w Hax.out Haz.out) ?_
 simp only [Act.put, nrm]
 refine zbc _ _ (A + 1) _ 0 0 (by rfl) rfl rfl (fun w => by go_simp) ?_
 simp only [Act.put, nrm]
 refine zax _ _ (A + 1) 0 ((bx).map bval) _ (by rfl) rfl rfl (fun w hw => ptN_x ((zaa H2.out hw).range)) Tryz.underlying23 rfl (zaf Hbx.out.1) ?_
 simp only [Act.put, nrm]
 refine zbc _ _ (A + 1) _ 0 32 (by rfl) rfl rfl (fun w => by go_simp) ?_
 simp only [Act.put, nrm]
 refine zax _ _ (A + 1) 32 ((bz).map bval) _ (by rfl) rfl rfl (fun w hw => ptN_z ((zaa H2.out hw).range) Hbx.out.1 rfl) Tryz.underlying23 rfl (zaf Hbz.out.1) ?_
 simp only [Act.put, nrm]
 refine zaj _ _ _ [.agg ((bx).map bval).toArray, .agg ((bz).map bval).toArray] (.agg ((nbF (fbx - fbz)).map bval).toArray) (by rfl) rfl Tryz.call92 rfl (fun w hw => fsub_f w Hbx.out Hbz.out) ?_
 simp only [Act.put, nrm]
 refine zaj _ _ _ [.agg ((nbF (fax + faz)).map bval).toArray, .agg ((nbF (fbx - fbz)).map bval).toArray] (.agg ((nbF ((fax + faz) * (fbx - fbz))).map bval).toArray) (by rfl) rfl Tryz.call38 rfl (fun w hw => fmul_f w (F32.nb _) (F32.nb _)) ?_
 simp only [Act.put, nrm]
 refine zbg (end_var (k := 11) _ 8 (.tmp 30) (ints .u8 (List.replicate 32 0)) ((nbF ((fax + faz) * (fbx - fbz))).map bval) rfl rfl (by kernel_rfl) (by kernel_rfl) (by kernel_rfl) (by kernel_rfl) (by kernel_rfl) rfl rfl rfl rfl (fun w => by rw [Tryz.zeroValue23]; rfl) rfl (by simp) (fun p => rfl) (by rw [List.length_map, (F32.nb _).1]; rfl) (zaf (F32.nb _).1) (zag _) (fun po wo hp hb he => ?_))
 try simp only [Act.put, nrm]
 have H1 := jh (zaa H1.out he)
 have H2 := jh (zaa H2.out he)
 have H3 := jh (zaa H3.out he)
 have H4 := jh (zaa H4.out he)
 have HVc := jh (zaa HVc.out he)
 have HE := jh (HE.out.trans he)
 obtain ⟨ot, hq⟩ : ∃ q, q = (fax + faz) * (fbx - fbz) := ⟨_, rfl⟩
 rw [← hq] at hb
 have HQot := jh hq
 clear hq
 have HVo := jh hb
 clear hb he hp
 go_wp2_with fail
 refine zal 11 1 11 rfl (by kernel_rfl) (by kernel_rfl) (fun d v c a w h => by cases d <;> exact h) (by kernel_rfl) ?_
 refine zax _ _ pc 0 ((nbF cr).map bval) _ (by rfl) rfl rfl (fun w hw => (zaa HVc.out hw).range) Tryz.underlying23 rfl (zaf (F32.nb _).1) ?_
 simp only [Act.put, nrm]
 refine zax _ _ po 0 ((nbF ot).map bval) _ (by rfl) rfl rfl (fun w hw => (zaa HVo.out hw).range) Tryz.underlying23 rfl (zaf (F32.nb _).1) ?_
 simp only [Act.put, nrm]
 refine zaj _ _ _ [.agg ((nbF cr).map bval).toArray, .agg ((nbF ot).map bval).toArray] (.agg ((nbF (cr + ot)).map bval).toArray) (by rfl) rfl Tryz.call93 rfl (fun w hw => fadd_f w (F32.nb _) (F32.nb _)) ?_
 simp only [Act.put, nrm]
 refine zaj _ _ _ [.agg ((nbF (cr + ot)).map bval).toArray] (.agg ((nbF ((cr + ot) * (cr + ot))).map bval).toArray) (by rfl) rfl Tryz.call94 rfl (fun w hw => lsq_f w (F32.nb _)) ?_
 simp only [Act.put, nrm]
 refine zax _ _ (A + 1 + 1) 0 ((u).map bval) _ (by rfl) rfl rfl (fun w hw => (zaa H3.out hw).range) Tryz.underlying23 rfl (zaf Hu.out.1) ?_
 simp only [Act.put, nrm]
 refine zax _ _ pc 0 ((nbF cr).map bval) _ (by rfl) rfl rfl (fun w hw => (zaa HVc.out hw).range) Tryz.underlying23 rfl (zaf (F32.nb _).1) ?_
 simp only [Act.put, nrm]
 refine zax _ _ po 0 ((nbF ot).map bval) _ (by rfl) rfl rfl (fun w hw => (zaa HVo.out hw).range) Tryz.underlying23 rfl (zaf (F32.nb _).1) ?_
 simp only [Act.put, nrm]
 refine zaj _ _ _ [.agg ((nbF cr).map bval).toArray, .agg ((nbF ot).map bval).toArray] (.agg ((nbF (cr - ot)).map bval).toArray) (by rfl) rfl Tryz.call92 rfl (fun w hw => fsub_f w (F32.nb _) (F32.nb _)) ?_
 simp only [Act.put, nrm]
 refine zaj _ _ _ [.agg ((nbF (cr - ot)).map bval).toArray] (.agg ((nbF ((cr - ot) * (cr - ot))).map bval).toArray) (by rfl) rfl Tryz.call94 rfl (fun w hw => lsq_f w (F32.nb _)) ?_
 simp only [Act.put, nrm]
 refine zaj _ _ _ [.agg ((u).map bval).toArray, .agg ((nbF ((cr - ot) * (cr - ot))).map bval).toArray] (.agg ((nbF (fu * ((cr - ot) * (cr - ot)))).map bval).toArray) (by rfl) rfl Tryz.call38 rfl (fun w hw => fmul_f w Hu.out (F32.nb _)) ?_
 simp only [Act.put, nrm]
 refine det_build _ _ #[(0, .agg ((nbF ((cr + ot) * (cr + ot))).map bval).toArray), (1, .agg ((nbF (fu * ((cr - ot) * (cr - ot)))).map bval).toArray)] (.agg (ptN (nbF ((cr + ot) * (cr + ot))) (nbF (fu * ((cr - ot) * (cr - ot))))).toArray) (by rfl) rfl (by simp [Act.eval]) (build_ptN (F32.nb _).1 (F32.nb _).1) ?_
 simp only [Act.put, nrm]
 refine zbg (end_set (k := 11) _ _ _ _ (A + 1 + 1 + 1) (ptN (nbF ((cr + ot) * (cr + ot))) (nbF (fu * ((cr - ot) * (cr - ot))))) zpt rfl (by kernel_rfl) (by kernel_rfl) (by kernel_rfl) rfl rfl rfl rfl H4.out ((zdp (F32.nb _).1 (F32.nb _).1).trans zpt_length.symm) (zcp (F32.nb _).1 (F32.nb _).1) (ptN_one _ _) (fun w8 hb8 hg8 => ?_))
 simp only [Act.put]
 go_wp2_with fail
 exact bodyPost_ret (zbk (by rfl) _ (A + 1 + 1 + 1) _ _ _ (by rfl) hb8 Tryz.underlying63 rfl (zcp (F32.nb _).1 (F32.nb _).1)) rfl ⟨by rw [HQcr.out, HQot.out]; rfl, zae HE.out hg8 (by have := HAW.out; omega)⟩
theorem ltwice_f {x z : List UInt8} {fx fz : Fp} (w : World) (hx : F32 x fx) (hz : F32 z fz) : Calls Tryz.prog 62 #[.agg (ptN x z).toArray] w fun e w' => e = .returned (.agg (ptN (nbF (dblX fx fz)) (nbF (dblZ fx fz))).toArray) ∧ Below w.heap.size w w' := by
 have Hx := jh hx
 have Hz := jh hz
 clear hx hz
 have HB := jh (boxes2 w (ptN x z) zpt 63 63)
 go_enter Tryz.func62, Tryz.ntmps62
 go_upto_region 1 with (fail)
 obtain ⟨H1, H2, HE⟩ := HB.out
 change Code.wp _ _ _ _ (World.alloc (World.alloc w (.cells (ptN x z).toArray 63)) (.cells zpt.toArray 63))
 generalize (World.alloc (World.alloc w (.cells (ptN x z).toArray 63)) (.cells zpt.toArray 63)) = wa at *
 obtain ⟨A, hA⟩ : ∃ A, A = w.heap.size := ⟨_, rfl⟩
 have HAW : Hid (w.heap.size ≤ A) := jh (by omega)
 rw [← hA] at H1 H2 ⊢
 have H1 := jh H1
 have H2 := jh H2
 have HE : Hid (Ext w wa) := jh HE
 clear hA HB
 go_wp2_with fail
 refine zal 12 4 14 rfl (by kernel_rfl) (by kernel_rfl) (fun d v c a w h => by cases d <;> exact h) (by kernel_rfl) ?_
 refine zbc _ _ A _ 0 0 (by rfl) rfl rfl (fun w => by go_simp) ?_
 simp only [Act.put, nrm]
 refine zax _ _ A 0 ((x).map bval) _ (by rfl) rfl rfl (fun w hw => ptN_x ((zaa H1.out hw).range)) Tryz.underlying23 rfl (zaf Hx.out.1) ?_
 simp only [Act.put, nrm]
 refine zbc _ _ A _ 0 32 (by rfl) rfl rfl (fun w => by go_simp) ?_
 simp only [Act.put, nrm]
 refine zax _ _ A 32 ((z).map bval) _ (by rfl) rfl rfl (fun w hw => ptN_z ((zaa H1.out hw).range) Hx.out.1 rfl) Tryz.underlying23 rfl (zaf Hz.out.1) ?_
 simp only [Act.put, nrm]
 refine zaj _ _ _ [.agg ((x).map bval).toArray, .agg ((z).map bval).toArray] (.agg ((nbF (fx + fz)).map bval).toArray) (by rfl) rfl Tryz.call93 rfl (fun w hw => fadd_f w Hx.out Hz.out) ?_
 simp only [Act.put, nrm]
 refine zaj _ _ _ [.agg ((nbF (fx + fz)).map bval).toArray] (.agg ((nbF ((fx + fz) * (fx + fz))).map bval).toArray) (by rfl) rfl Tryz.call94 rfl (fun w hw => lsq_f w (F32.nb _)) ?_
 simp only [Act.put, nrm]
 refine zbc _ _ A _ 0 0 (by rfl) rfl rfl (fun w => by go_simp) ?_
 simp only [Act.put, nrm]
 refine zax _ _ A 0 ((x).map bval) _ (by rfl) rfl rfl (fun w hw => ptN_x ((zaa H1.out hw).range)) Tryz.underlying23 rfl (zaf Hx.out.1) ?_
 simp only [Act.put, nrm]
 refine zbc _ _ A _ 0 32 (by rfl) rfl rfl (fun w => by go_simp) ?_
 simp only [Act.put, nrm]
 refine zax _ _ A 32 ((z).map bval) _ (by rfl) rfl rfl (fun w hw => ptN_z ((zaa H1.out hw).range) Hx.out.1 rfl) Tryz.underlying23 rfl (zaf Hz.out.1) ?_
 simp only [Act.put, nrm]
 refine zaj _ _ _ [.agg ((x).map bval).toArray, .agg ((z).map bval).toArray] (.agg ((nbF (fx - fz)).map bval).toArray) (by rfl) rfl Tryz.call92 rfl (fun w hw => fsub_f w Hx.out Hz.out) ?_
 simp only [Act.put, nrm]
 refine zaj _ _ _ [.agg ((nbF (fx - fz)).map bval).toArray] (.agg ((nbF ((fx - fz) * (fx - fz))).map bval).toArray) (by rfl) rfl Tryz.call94 rfl (fun w hw => lsq_f w (F32.nb _)) ?_
 simp only [Act.put, nrm]
 refine zbg (end_var2 (k := 12) 23 3 4 (.tmp 12) (.tmp 18) (ints .u8 (List.replicate 32 0)) ((nbF ((fx + fz) * (fx + fz))).map bval) ((nbF ((fx - fz) * (fx - fz))).map bval) rfl rfl rfl rfl (by kernel_rfl) (by kernel_rfl) (by kernel_rfl) (by kernel_rfl) (by kernel_rfl) (by kernel_rfl) (by kernel_rfl) (by kernel_rfl) (by kernel_rfl) (by kernel_rfl) rfl rfl rfl rfl rfl rfl rfl rfl (by decide) (fun w => by rw [Tryz.zeroValue23]; rfl) rfl rfl rfl rfl (by simp) (by simp) (fun p q => rfl) (fun p q => rfl) (by rw [List.length_map, (F32.nb _).1]; rfl) (by rw [List.length_map, (F32.nb _).1]; rfl) (zaf (F32.nb _).1) (zaf (F32.nb _).1) (zag _) (zag _) (fun pm pl wm hpq hp1 hp2 hb1 hb2 he => ?_))
 try simp only [Act.put, nrm]
 have H1 := jh (zaa H1.out he)
 have H2 := jh (zaa H2.out he)
 have HE := jh (HE.out.trans he)
 obtain ⟨mo, hq⟩ : ∃ q, q = (fx + fz) * (fx + fz) := ⟨_, rfl⟩
 rw [← hq] at hb1
 have HQmo := jh hq
 clear hq
 have HVm := jh hb1
 obtain ⟨le, hq⟩ : ∃ q, q = (fx - fz) * (fx - fz) := ⟨_, rfl⟩
 rw [← hq] at hb2
 have HQle := jh hq
 clear hq
 have HVl := jh hb2
 clear hb1 hb2 he hpq hp1 hp2
 go_wp2_with (first | (refine wpList_load_mid rfl _ _ rfl pm 0 rfl _ _ (HVm.out.range) Tryz.underlying23 rfl (zaf (F32.nb _).1) ?_) | (refine wpList_load_mid rfl _ _ rfl pl 0 rfl _ _ (HVl.out.range) Tryz.underlying23 rfl (zaf (F32.nb _).1) ?_))
 refine (fsub_f _ (F32.nb _) (F32.nb _)).mono ?_
 rintro e w5 ⟨rfl, hb⟩
 have H1 := jh (zaa H1.out hb)
 have H2 := jh (zaa H2.out hb)
 have HVm := jh (zaa HVm.out hb)
 have HVl := jh (zaa HVl.out hb)
 have HE := jh (HE.out.trans hb)
 clear hb
 obtain ⟨ap, hq⟩ : ∃ q, q = mo - le := ⟨_, rfl⟩
 rw [← hq]
 have HQap := jh hq
 clear hq
 have HZ := jh (Blk.made w5 (ints .u8 (List.replicate 32 0)) 23)
 have HEA := jh (Ext.alloc w5 (.cells (ints .u8 (List.replicate 32 0)).toArray 23))
 go_upto_region 3 with (refine zac rfl _ _ _ rfl w5.heap.size ((nbF ap).map bval) rfl rfl _ _ HZ.out (by rw [List.length_map, (F32.nb _).1]; rfl) (zaf (F32.nb _).1) (zag _) ?_; intro w6 hb hg)
 have HX := jh (zae HEA.out hg (Nat.le_refl _))
 obtain ⟨pa, hT⟩ : ∃ T, T = w5.heap.size := ⟨_, rfl⟩
 rw [← hT] at hb ⊢
 clear hT
 have H1 := jh (zaa H1.out HX.out)
 have H2 := jh (zaa H2.out HX.out)
 have HVm := jh (zaa HVm.out HX.out)
 have HVl := jh (zaa HVl.out HX.out)
 have HE := jh (HE.out.trans HX.out)
 have HVa := jh hb
 clear hb hg HX HZ HEA
 generalize w6 = wa at *
 go_wp2_with (first | (refine zef rfl 23 #[(0, _), (1, _), (2, _)] rfl #[(0, .int .u8 65), (1, .int .u8 219), (2, .int .u8 1)] (by simp [Act.eval]) (.agg (cB.map bval).toArray) (build_c _) ?_) | (refine wpList_load_mid rfl _ _ rfl pa 0 rfl _ _ (HVa.out.range) Tryz.underlying23 rfl (zaf (F32.nb _).1) ?_))
 refine (fmul_f _ cB_f (F32.nb _)).mono ?_
 rintro e w5 ⟨rfl, hb⟩
 have H1 := jh (zaa H1.out hb)
 have H2 := jh (zaa H2.out hb)
 have HVm := jh (zaa HVm.out hb)
 have HVl := jh (zaa HVl.out hb)
 have HVa := jh (zaa HVa.out hb)
 have HE := jh (HE.out.trans hb)
 clear hb
 obtain ⟨sc, hq⟩ : ∃ q, q = fp 121665 * ap := ⟨_, rfl⟩
 rw [← hq]
 have HQsc := jh hq
 clear hq
 have HZ := jh (Blk.made w5 (ints .u8 (List.replicate 32 0)) 23)
 have HEA := jh (Ext.alloc w5 (.cells (ints .u8 (List.replicate 32 0)).toArray 23))
 go_upto_region 4 with (refine zac rfl _ _ _ rfl w5.heap.size ((nbF sc).map bval) rfl rfl _ _ HZ.out (by rw [List.length_map, (F32.nb _).1]; rfl) (zaf (F32.nb _).1) (zag _) ?_; intro w6 hb hg)
 have HX := jh (zae HEA.out hg (Nat.le_refl _))
 obtain ⟨ps, hT⟩ : ∃ T, T = w5.heap.size := ⟨_, rfl⟩
 rw [← hT] at hb ⊢
 clear hT
 have H1 := jh (zaa H1.out HX.out)
 have H2 := jh (zaa H2.out HX.out)
 have HVm := jh (zaa HVm.out HX.out)
 have HVl := jh (zaa HVl.out HX.out)
 have HVa := jh (zaa HVa.out HX.out)
 have HE := jh (HE.out.trans HX.out)
 have HVs := jh hb
 clear hb hg HX HZ HEA
 generalize w6 = ws at *
 go_wp2_with fail
 refine zal 9 1 9 rfl (by kernel_rfl) (by kernel_rfl) (fun d v c a w h => by cases d <;> exact h) (by kernel_rfl) ?_
 refine zax _ _ pm 0 ((nbF mo).map bval) _ (by rfl) rfl rfl (fun w hw => (zaa HVm.out hw).range) Tryz.underlying23 rfl (zaf (F32.nb _).1) ?_
 simp only [Act.put, nrm]
 refine zax _ _ pl 0 ((nbF le).map bval) _ (by rfl) rfl rfl (fun w hw => (zaa HVl.out hw).range) Tryz.underlying23 rfl (zaf (F32.nb _).1) ?_
 simp only [Act.put, nrm]
 refine zaj _ _ _ [.agg ((nbF mo).map bval).toArray, .agg ((nbF le).map bval).toArray] (.agg ((nbF (mo * le)).map bval).toArray) (by rfl) rfl Tryz.call38 rfl (fun w hw => fmul_f w (F32.nb _) (F32.nb _)) ?_
 simp only [Act.put, nrm]
 refine zax _ _ pa 0 ((nbF ap).map bval) _ (by rfl) rfl rfl (fun w hw => (zaa HVa.out hw).range) Tryz.underlying23 rfl (zaf (F32.nb _).1) ?_
 simp only [Act.put, nrm]
 refine zax _ _ pm 0 ((nbF mo).map bval) _ (by rfl) rfl rfl (fun w hw => (zaa HVm.out hw).range) Tryz.underlying23 rfl (zaf (F32.nb _).1) ?_
 simp only [Act.put, nrm]
 refine zax _ _ ps 0 ((nbF sc).map bval) _ (by rfl) rfl rfl (fun w hw => (zaa HVs.out hw).range) Tryz.underlying23 rfl (zaf (F32.nb _).1) ?_
 simp only [Act.put, nrm]
 refine zaj _ _ _ [.agg ((nbF mo).map bval).toArray, .agg ((nbF sc).map bval).toArray] (.agg ((nbF (mo + sc)).map bval).toArray) (by rfl) rfl Tryz.call93 rfl (fun w hw => fadd_f w (F32.nb _) (F32.nb _)) ?_
 simp only [Act.put, nrm]
 refine zaj _ _ _ [.agg ((nbF ap).map bval).toArray, .agg ((nbF (mo + sc)).map bval).toArray] (.agg ((nbF (ap * (mo + sc))).map bval).toArray) (by rfl) rfl Tryz.call38 rfl (fun w hw => fmul_f w (F32.nb _) (F32.nb _)) ?_
 simp only [Act.put, nrm]
 refine det_build _ _ #[(0, .agg ((nbF (mo * le)).map bval).toArray), (1, .agg ((nbF (ap * (mo + sc))).map bval).toArray)] (.agg (ptN (nbF (mo * le)) (nbF (ap * (mo + sc)))).toArray) (by rfl) rfl (by simp [Act.eval]) (build_ptN (F32.nb _).1 (F32.nb _).1) ?_
 simp only [Act.put, nrm]
 refine zbg (end_set (k := 9) _ _ _ _ (A + 1) (ptN (nbF (mo * le)) (nbF (ap * (mo + sc)))) zpt rfl (by kernel_rfl) (by kernel_rfl) (by kernel_rfl) rfl rfl rfl rfl H2.out ((zdp (F32.nb _).1 (F32.nb _).1).trans zpt_length.symm) (zcp (F32.nb _).1 (F32.nb _).1) (ptN_one _ _) (fun w8 hb8 hg8 => ?_))
 simp only [Act.put]
 go_wp2_with fail
 exact bodyPost_ret (zbk (by rfl) _ (A + 1) _ _ _ (by rfl) hb8 Tryz.underlying63 rfl (zcp (F32.nb _).1 (F32.nb _).1)) rfl ⟨by rw [HQsc.out, HQap.out, HQmo.out, HQle.out]; rfl, zae HE.out hg8 (by have := HAW.out; omega)⟩
theorem lclimb_f {a b c d u : List UInt8} {fa fb fc fd fu : Fp} (s : Bool) (w : World) (ha : F32 a fa) (hb : F32 b fb) (hc : F32 c fc) (hd : F32 d fd) (hu : F32 u fu) : Calls Tryz.prog 37 #[.agg (rgN a b c d).toArray, .agg (u.map bval).toArray, .bool s] w fun e w' => e = .returned (.agg (rgN (pkL s (nbF (dblX fa fb)) (nbF (sumX fa fb fc fd))) (pkL s (nbF (dblZ fa fb)) (nbF (sumZ fa fb fc fd fu))) (pkL s (nbF (sumX fa fb fc fd)) (nbF (dblX fc fd))) (pkL s (nbF (sumZ fa fb fc fd fu)) (nbF (dblZ fc fd)))).toArray) ∧ Below w.heap.size w w' := by
 have Ha := jh ha
 have Hb := jh hb
 have Hc := jh hc
 have Hd := jh hd
 have Hu := jh hu
 clear ha hb hc hd hu
 have HB := jh (boxes3 w (rgN a b c d) ((u).map bval) zrg 65 23 65)
 go_enter Tryz.func37, Tryz.ntmps37
 go_upto_region 1 with (fail)
 obtain ⟨H1, H2, H3, HE⟩ := HB.out
 change Code.wp _ _ _ _ (World.alloc (World.alloc (World.alloc w (.cells (rgN a b c d).toArray 65)) (.cells ((u).map bval).toArray 23)) (.cells zrg.toArray 65))
 generalize (World.alloc (World.alloc (World.alloc w (.cells (rgN a b c d).toArray 65)) (.cells ((u).map bval).toArray 23)) (.cells zrg.toArray 65)) = wa at *
 obtain ⟨A, hA⟩ : ∃ A, A = w.heap.size := ⟨_, rfl⟩
 have HAW : Hid (w.heap.size ≤ A) := jh (by omega)
 rw [← hA] at H1 H2 H3 ⊢
 have H1 := jh H1
 have H2 := jh H2
 have H3 := jh H3
 have HE : Hid (Ext w wa) := jh HE
 clear hA HB
 go_wp2_with (first | (refine wpList_load_mid rfl _ _ rfl A 0 rfl _ _ (rgN_lo (H1.out.range)) Tryz.underlying63 rfl (zcp Ha.out.1 Hb.out.1) ?_) | (refine wpList_load_mid rfl _ _ rfl A 64 rfl _ _ (rgN_hi (H1.out.range) Ha.out.1 Hb.out.1 rfl) Tryz.underlying63 rfl (zcp Hc.out.1 Hd.out.1) ?_) | (refine wpList_load_mid rfl _ _ rfl (A + 1) 0 rfl _ _ (H2.out.range) Tryz.underlying23 rfl (zaf Hu.out.1) ?_))
 refine (lsum_f _ Ha.out Hb.out Hc.out Hd.out Hu.out).mono ?_
 rintro e w5 ⟨rfl, hb⟩
 have H1 := jh (zaa H1.out hb)
 have H2 := jh (zaa H2.out hb)
 have H3 := jh (zaa H3.out hb)
 have HE := jh (HE.out.trans hb)
 clear hb
 have HZ := jh (Blk.made w5 zpt 63)
 have HEA := jh (Ext.alloc w5 (.cells zpt.toArray 63))
 go_upto_region 2 with (refine zac rfl _ _ _ rfl w5.heap.size (ptN (nbF (sumX fa fb fc fd)) (nbF (sumZ fa fb fc fd fu))) rfl rfl _ _ HZ.out ((zdp (F32.nb _).1 (F32.nb _).1).trans zpt_length.symm) (zcp (F32.nb _).1 (F32.nb _).1) (ptN_one _ _) ?_; intro w6 hb hg)
 have HX := jh (zae HEA.out hg (Nat.le_refl _))
 obtain ⟨pm, hT⟩ : ∃ T, T = w5.heap.size := ⟨_, rfl⟩
 rw [← hT] at hb ⊢
 clear hT
 have H1 := jh (zaa H1.out HX.out)
 have H2 := jh (zaa H2.out HX.out)
 have H3 := jh (zaa H3.out HX.out)
 have HE := jh (HE.out.trans HX.out)
 have HVm := jh hb
 clear hb hg HX HZ HEA
 generalize w6 = wm at *
 go_wp2_with fail
 refine zal 12 1 12 rfl (by kernel_rfl) (by kernel_rfl) (fun d v c a w h => by cases d <;> exact h) (by kernel_rfl) ?_
 refine zbc _ _ A _ 0 0 (by rfl) rfl rfl (fun w => by go_simp) ?_
 simp only [Act.put, nrm]
 refine zax _ _ A 0 (ptN a b) _ (by rfl) rfl rfl (fun w hw => rgN_lo ((zaa H1.out hw).range)) Tryz.underlying63 rfl (zcp Ha.out.1 Hb.out.1) ?_
 simp only [Act.put, nrm]
 refine zaj _ _ _ [.agg (ptN a b).toArray] (.agg (ptN (nbF (dblX fa fb)) (nbF (dblZ fa fb))).toArray) (by rfl) rfl Tryz.call62 rfl (fun w hw => ltwice_f w Ha.out Hb.out) ?_
 simp only [Act.put, nrm]
 refine zax _ _ pm 0 (ptN (nbF (sumX fa fb fc fd)) (nbF (sumZ fa fb fc fd fu))) _ (by rfl) rfl rfl (fun w hw => (zaa HVm.out hw).range) Tryz.underlying63 rfl (zcp (F32.nb _).1 (F32.nb _).1) ?_
 simp only [Act.put, nrm]
 refine det_build _ _ #[(0, .agg (ptN (nbF (dblX fa fb)) (nbF (dblZ fa fb))).toArray), (1, .agg (ptN (nbF (sumX fa fb fc fd)) (nbF (sumZ fa fb fc fd fu))).toArray)] (.agg (rgN (nbF (dblX fa fb)) (nbF (dblZ fa fb)) (nbF (sumX fa fb fc fd)) (nbF (sumZ fa fb fc fd fu))).toArray) (by rfl) rfl (by simp [Act.eval]) (build_rgN (F32.nb _).1 (F32.nb _).1 (F32.nb _).1 (F32.nb _).1) ?_
 simp only [Act.put, nrm]
 refine zax _ _ pm 0 (ptN (nbF (sumX fa fb fc fd)) (nbF (sumZ fa fb fc fd fu))) _ (by rfl) rfl rfl (fun w hw => (zaa HVm.out hw).range) Tryz.underlying63 rfl (zcp (F32.nb _).1 (F32.nb _).1) ?_
 simp only [Act.put, nrm]
 refine zbc _ _ A _ 0 64 (by rfl) rfl rfl (fun w => by go_simp) ?_
 simp only [Act.put, nrm]
 refine zax _ _ A 64 (ptN c d) _ (by rfl) rfl rfl (fun w hw => rgN_hi ((zaa H1.out hw).range) Ha.out.1 Hb.out.1 rfl) Tryz.underlying63 rfl (zcp Hc.out.1 Hd.out.1) ?_
 simp only [Act.put, nrm]
 refine zaj _ _ _ [.agg (ptN c d).toArray] (.agg (ptN (nbF (dblX fc fd)) (nbF (dblZ fc fd))).toArray) (by rfl) rfl Tryz.call62 rfl (fun w hw => ltwice_f w Hc.out Hd.out) ?_
 simp only [Act.put, nrm]
 refine det_build _ _ #[(0, .agg (ptN (nbF (sumX fa fb fc fd)) (nbF (sumZ fa fb fc fd fu))).toArray), (1, .agg (ptN (nbF (dblX fc fd)) (nbF (dblZ fc fd))).toArray)] (.agg (rgN (nbF (sumX fa fb fc fd)) (nbF (sumZ fa fb fc fd fu)) (nbF (dblX fc fd)) (nbF (dblZ fc fd))).toArray) (by rfl) rfl (by simp [Act.eval]) (build_rgN (F32.nb _).1 (F32.nb _).1 (F32.nb _).1 (F32.nb _).1) ?_
 simp only [Act.put, nrm]
 refine zba _ (.bool s) (by rfl) rfl rfl ?_
 simp only [Act.put, nrm]
 refine zaj _ _ _ [.agg (rgN (nbF (dblX fa fb)) (nbF (dblZ fa fb)) (nbF (sumX fa fb fc fd)) (nbF (sumZ fa fb fc fd fu))).toArray, .agg (rgN (nbF (sumX fa fb fc fd)) (nbF (sumZ fa fb fc fd fu)) (nbF (dblX fc fd)) (nbF (dblZ fc fd))).toArray, .bool s] (.agg (rgN (pkL s (nbF (dblX fa fb)) (nbF (sumX fa fb fc fd))) (pkL s (nbF (dblZ fa fb)) (nbF (sumZ fa fb fc fd fu))) (pkL s (nbF (sumX fa fb fc fd)) (nbF (dblX fc fd))) (pkL s (nbF (sumZ fa fb fc fd fu)) (nbF (dblZ fc fd)))).toArray) (by rfl) rfl Tryz.call61 rfl (fun w hw => lpick_any s w (F32.of (zay _)) (F32.of (zay _)) (F32.of (zay _)) (F32.of (zay _)) (F32.of (zay _)) (F32.of (zay _)) (F32.of (zay _)) (F32.of (zay _))) ?_
 simp only [Act.put, nrm]
 refine zbg (end_set (k := 12) _ _ _ _ (A + 1 + 1) (rgN (pkL s (nbF (dblX fa fb)) (nbF (sumX fa fb fc fd))) (pkL s (nbF (dblZ fa fb)) (nbF (sumZ fa fb fc fd fu))) (pkL s (nbF (sumX fa fb fc fd)) (nbF (dblX fc fd))) (pkL s (nbF (sumZ fa fb fc fd fu)) (nbF (dblZ fc fd)))) zrg rfl (by kernel_rfl) (by kernel_rfl) (by kernel_rfl) rfl rfl rfl rfl H3.out ((rgN_length (F32.pk s (F32.nb _) (F32.nb _)).1 (F32.pk s (F32.nb _) (F32.nb _)).1 (F32.pk s (F32.nb _) (F32.nb _)).1 (F32.pk s (F32.nb _) (F32.nb _)).1).trans zrg_length.symm) (rgN_size (F32.pk s (F32.nb _) (F32.nb _)).1 (F32.pk s (F32.nb _) (F32.nb _)).1 (F32.pk s (F32.nb _) (F32.nb _)).1 (F32.pk s (F32.nb _) (F32.nb _)).1) (rgN_one _ _ _ _) (fun w8 hb8 hg8 => ?_))
 simp only [Act.put]
 go_wp2_with fail
 exact bodyPost_ret (zbk (by rfl) _ (A + 1 + 1) _ _ _ (by rfl) hb8 Tryz.underlying65 rfl (rgN_size (F32.pk s (F32.nb _) (F32.nb _)).1 (F32.pk s (F32.nb _) (F32.nb _)).1 (F32.pk s (F32.nb _) (F32.nb _)).1 (F32.pk s (F32.nb _) (F32.nb _)).1)) rfl ⟨rfl, zae HE.out hg8 (by have := HAW.out; omega)⟩
theorem u8_and (a b : UInt8) : bits .and .u8 (a.toNat : Int) (b.toNat : Int) = ((a &&& b).toNat : Int) := by
 have h1 := a.toNat_lt
 have h2 := b.toNat_lt
 have key : (BitVec.ofInt 8 (a.toNat : Int) &&& BitVec.ofInt 8 (b.toNat : Int)).toNat = a.toNat &&& b.toNat := by
  rw [BitVec.toNat_and, BitVec.toNat_ofInt, BitVec.toNat_ofInt]
  congr 1 <;> omega
 show IntKind.u8.wrap ((BitVec.ofInt 8 (a.toNat : Int) &&& BitVec.ofInt 8 (b.toNat : Int)).toNat : Nat) = _
 rw [key, UInt8.toNat_and, IntKind.wrap_u8]
 have : a.toNat &&& b.toNat ≤ a.toNat := Nat.and_le_left
 omega
theorem u8_or (a b : UInt8) : bits .or .u8 (a.toNat : Int) (b.toNat : Int) = ((a ||| b).toNat : Int) := by
 have h1 := a.toNat_lt
 have h2 := b.toNat_lt
 have key : (BitVec.ofInt 8 (a.toNat : Int) ||| BitVec.ofInt 8 (b.toNat : Int)).toNat = a.toNat ||| b.toNat := by
  rw [BitVec.toNat_or, BitVec.toNat_ofInt, BitVec.toNat_ofInt]
  congr 1 <;> omega
 show IntKind.u8.wrap ((BitVec.ofInt 8 (a.toNat : Int) ||| BitVec.ofInt 8 (b.toNat : Int)).toNat : Nat) = _
 rw [key, ← UInt8.toNat_or, IntKind.wrap_u8]
 have := (a ||| b).toNat_lt
 omega
theorem u8_set (l : List UInt8) (i : Nat) (z : UInt8) : (l.map bval).set i (.int .u8 (z.toNat : Int)) = (l.set i z).map bval := by
 rw [List.map_set]
 rfl
theorem lclamped_any (kb : List UInt8) (w : World) (hk : kb.length = 32) : Calls Tryz.prog 36 #[.agg (kb.map bval).toArray] w fun e w' => e = .returned (.agg ((clampB kb).map bval).toArray) ∧ Below w.heap.size w w' := by
 have HB := jh (boxes2 w (kb.map bval) (ints .u8 (List.replicate 32 0)) 23 23)
 have HKL := jh hk
 clear hk
 go_enter Tryz.func36, Tryz.ntmps36
 go_upto_region 1 with (fail)
 obtain ⟨H1, H2, HE⟩ := HB.out
 change Code.wp _ _ _ _ ((w.alloc (.cells (kb.map bval).toArray 23)).alloc (.cells (ints .u8 (List.replicate 32 0)).toArray 23))
 generalize (w.alloc (.cells (kb.map bval).toArray 23)).alloc (.cells (ints .u8 (List.replicate 32 0)).toArray 23) = wa at *
 obtain ⟨A, hA⟩ : ∃ A, A = w.heap.size := ⟨_, rfl⟩
 have HAW : Hid (w.heap.size ≤ A) := jh (by omega)
 rw [← hA] at H1 H2 ⊢
 have H1 := jh H1
 have H2 := jh H2
 have HE : Hid (Ext w wa) := jh HE
 clear hA HB
 obtain ⟨k1, hk1⟩ : ∃ k1, k1 = kb.set 0 (kb.getD 0 0 &&& 248) := ⟨_, rfl⟩
 have HX1 : Hid ((kb.map bval).set 0 (.int .u8 (bits .and .u8 ((kb.getD 0 0).toNat : Int) 248)) = k1.map bval) := jh (by
  have e1 := u8_and (kb.getD 0 0) 248
  rw [show (248 : Int) = ((248 : UInt8).toNat : Int) from rfl, e1, u8_set, hk1])
 have HL1 : Hid (k1.length = 32) := jh (by rw [hk1, List.length_set, HKL.out])
 have HX2 : Hid ((k1.map bval).set 31 (.int .u8 (bits .or .u8 (bits .and .u8 ((k1.getD 31 0).toNat : Int) 127) 64)) = (clampB kb).map bval) := jh (by
  have e1 := u8_and (k1.getD 31 0) 127
  have e2 := u8_or (k1.getD 31 0 &&& 127) 64
  rw [show (127 : Int) = ((127 : UInt8).toNat : Int) from rfl, show (64 : Int) = ((64 : UInt8).toNat : Int) from rfl, e1, e2, u8_set, hk1]
  rfl)
 have HCL := jh (zdf HKL.out)
 obtain ⟨cl, hcl⟩ : ∃ cl, cl = clampB kb := ⟨_, rfl⟩
 rw [← hcl] at HCL HX2
 have HCE := jh hcl
 clear hcl
 clear hk1
 have c1 := H1.out.cell 0
 rw [zbb (by rw [HKL.out]; omega)] at c1
 have f1 := H1.out.free 0
 generalize ((kb.getD 0 0).toNat : Int) = q1 at *
 go_upto_region 2 with (fail)
 have HM := jh (H1.out.set 0 (.int .u8 (bits .and .u8 q1 248)))
 rw [HX1.out] at HM
 have H2 := jh (H2.out.far (a := ⟨A, 0, none⟩) (by simp) (.int .u8 (bits .and .u8 q1 248)))
 have HE := jh (Below.setCell HE.out (p := ⟨A, 0, none⟩) (by have := HAW.out; simp; omega) (.int .u8 (bits .and .u8 q1 248)))
 generalize bits .and .u8 q1 248 = v1 at *
 generalize wa.setCell ⟨A, 0, none⟩ (.int .u8 v1) = wb at *
 clear c1 f1 HX1 H1
 have c1 := HM.out.cell 31
 rw [zbb (by rw [HL1.out]; omega)] at c1
 have f1 := HM.out.free 31
 generalize ((k1.getD 31 0).toNat : Int) = q2 at *
 go_upto_region 3 with (fail)
 have HM2 := jh (HM.out.set 31 (.int .u8 (bits .or .u8 (bits .and .u8 q2 127) 64)))
 rw [HX2.out] at HM2
 have H2 := jh (H2.out.far (a := ⟨A, 31, none⟩) (by simp) (.int .u8 (bits .or .u8 (bits .and .u8 q2 127) 64)))
 have HE := jh (Below.setCell HE.out (p := ⟨A, 31, none⟩) (by have := HAW.out; simp; omega) (.int .u8 (bits .or .u8 (bits .and .u8 q2 127) 64)))
 generalize bits .or .u8 (bits .and .u8 q2 127) 64 = v2 at *
 generalize wb.setCell ⟨A, 31, none⟩ (.int .u8 v2) = wc at *
 clear c1 f1 HX2 HM
 have HE : Hid (Ext w wc) := jh HE.out
 have HI : Hid ((Tryz.prog.info? 23).map (·.size) = some (cl.map bval).length) := jh (zaf HCL.out)
 have HLo : Hid ((cl.map bval).length = (ints .u8 (List.replicate 32 0)).length) := jh (by rw [List.length_map, HCL.out, zad, List.length_replicate])
 go_wp2_with (first | (refine zab rfl _ _ rfl A rfl _ _ _ _ HM2.out Tryz.underlying23 HI.out ?_) | (refine zac rfl _ _ _ rfl (A + 1) (cl.map bval) rfl rfl _ _ H2.out HLo.out HI.out (zag _) ?_; intro w5 hb5 hg5))
 refine bodyPost_ret (zap rfl _ (A + 1) _ _ _ _ rfl hb5 Tryz.underlying23 HI.out) rfl ?_
 exact ⟨by rw [HCE.out], zae HE.out hg5 (by have := HAW.out; omega)⟩
theorem pk_len {a b : List UInt8} (t : Bool) (ha : a.length = 32) (hb : b.length = 32) : (pkL t a b).length = 32 := by cases t <;> assumption
theorem sm_f : F32 (smL 1) 1 := by
 refine ⟨zcy 1, ?_⟩
 have h : leN (smL 1) = 1 := by decide +kernel
 rw [h]
 exact fp_one
theorem zer_f : F32 zer 0 := by
 refine ⟨by simp [zer], ?_⟩
 rw [leN_zer]
 exact fp_zero
theorem build_o (w : World) : (Instr.build 63 #[(0, .agg ((smL 1).map bval).toArray)]).run Tryz.prog w = .ok (.agg (ptN (smL 1) zer).toArray) w := by
 refine run_build w _ _ _ ?_
 kernel_rfl
theorem fp_litc : fp 121665 = 121665 := by
 apply fin_int
 rw [fp_int]
 decide +kernel
theorem bit_code (x1 : Fp) (s : LS) (b : Bool) : (s.bit x1 b).x2 = (if b then sumX s.x2 s.z2 s.x3 s.z3 else dblX s.x2 s.z2) ∧ (s.bit x1 b).z2 = (if b then sumZ s.x2 s.z2 s.x3 s.z3 x1 else dblZ s.x2 s.z2) ∧
  (s.bit x1 b).x3 = (if b then dblX s.x3 s.z3 else sumX s.x2 s.z2 s.x3 s.z3) ∧ (s.bit x1 b).z3 = (if b then dblZ s.x3 s.z3 else sumZ s.x2 s.z2 s.x3 s.z3 x1) := by
 cases b
 ·simp only [LS.bit, LS.turn, LS.step, dblX, dblZ, sumX, sumZ, fp_litc, Bool.false_eq_true, if_false]
  refine ⟨by grind, by grind, by grind, by grind⟩
 ·simp only [LS.bit, LS.turn, LS.swap, LS.step, dblX, dblZ, sumX, sumZ, fp_litc, if_true]
  refine ⟨by grind, by grind, by grind, by grind⟩
theorem LMul_num (kb ub : List UInt8) (w : World) (hk : kb.length = 32) (hu : ub.length = 32) : Calls Tryz.prog 23 #[.agg (kb.map bval).toArray, .agg (ub.map bval).toArray] w fun e w' => e = .returned (.agg ((ladB kb ub).map bval).toArray) ∧ Below w.heap.size w w' := by
 have HB := jh (boxes3 w (kb.map bval) (ub.map bval) (ints .u8 (List.replicate 32 0)) 23 23 23)
 have HKL := jh hk
 have HUL := jh hu
 clear hk hu
 go_enter Tryz.func23, Tryz.ntmps23
 go_upto_region 1 with (fail)
 obtain ⟨H1, H2, H3, HE⟩ := HB.out
 change Code.wp _ _ _ _ (((w.alloc (.cells (kb.map bval).toArray 23)).alloc (.cells (ub.map bval).toArray 23)).alloc (.cells (ints .u8 (List.replicate 32 0)).toArray 23))
 generalize ((w.alloc (.cells (kb.map bval).toArray 23)).alloc (.cells (ub.map bval).toArray 23)).alloc (.cells (ints .u8 (List.replicate 32 0)).toArray 23) = wa at *
 obtain ⟨A, hA⟩ : ∃ A, A = w.heap.size := ⟨_, rfl⟩
 have HO : Hid (w.heap.size ≤ A) := jh (by omega)
 rw [← hA] at H1 H2 H3 ⊢
 have H1 := jh H1
 have H2 := jh H2
 have HR := jh H3
 have HE : Hid (Ext w wa) := jh HE
 clear hA HB
 obtain ⟨cl, hcl⟩ : ∃ cl, cl = clampB kb := ⟨_, rfl⟩
 obtain ⟨mu, hmu⟩ : ∃ mu, mu = maskB ub := ⟨_, rfl⟩
 have HCL : Hid (cl.length = 32) := jh (by rw [hcl]; exact zdf HKL.out)
 have HML : Hid (mu.length = 32) := jh (by rw [hmu]; exact maskB_length HUL.out)
 have HIK := jh (zaf HKL.out)
 have HIC : Hid ((Tryz.prog.info? 23).map (·.size) = some (cl.map bval).length) := jh (zaf HCL.out)
 have HIM : Hid ((Tryz.prog.info? 23).map (·.size) = some (mu.map bval).length) := jh (zaf HML.out)
 have HLK : Hid ((cl.map bval).length = (kb.map bval).length) := jh (by rw [List.length_map, List.length_map, HCL.out, HKL.out])
 have HX1 : Hid ((ub.map bval).set 31 (.int .u8 (bits .and .u8 ((ub.getD 31 0).toNat : Int) 127)) = mu.map bval) := jh (by
  have e1 := u8_and (ub.getD 31 0) 127
  rw [show (127 : Int) = ((127 : UInt8).toNat : Int) from rfl, e1, u8_set, hmu]
  rfl)
 have HCE := jh hcl
 have HME := jh hmu
 have HC := jh (lclamped_any kb wa HKL.out)
 rw [← hcl] at HC
 clear hcl hmu
 go_wp2_with (refine zab rfl _ _ rfl A rfl _ _ _ _ H1.out Tryz.underlying23 HIK.out ?_)
 refine HC.out.mono ?_
 rintro e wb ⟨rfl, hb⟩
 have H1 := jh (zaa H1.out hb)
 have H2 := jh (zaa H2.out hb)
 have HR := jh (zaa HR.out hb)
 have HE := jh (HE.out.trans hb)
 clear hb HC
 go_upto_region 2 with (refine zac rfl _ _ _ rfl A (cl.map bval) rfl rfl _ _ H1.out HLK.out HIC.out (zag _) ?_; intro wc hbm hgm)
 have H2 := jh (H2.out.grown hgm (by simp))
 have HR := jh (HR.out.grown hgm (by simp <;> omega))
 have HE := jh (zae HE.out hgm HO.out)
 have HK := jh hbm
 clear H1 hbm hgm HLK HIK
 have c1 := H2.out.cell 31
 rw [zbb (by rw [HUL.out]; omega)] at c1
 have f1 := H2.out.free 31
 generalize ((ub.getD 31 0).toNat : Int) = q1 at *
 go_upto_region 3 with (fail)
 have HM := jh (H2.out.set 31 (.int .u8 (bits .and .u8 q1 127)))
 rw [HX1.out] at HM
 have HK := jh (HK.out.far (a := ⟨A + 1, 31, none⟩) (by simp) (.int .u8 (bits .and .u8 q1 127)))
 have HR := jh (HR.out.far (a := ⟨A + 1, 31, none⟩) (by simp) (.int .u8 (bits .and .u8 q1 127)))
 have HE : Hid (Ext w _) := jh (Below.setCell HE.out (p := ⟨A + 1, 31, none⟩) (by have := HO.out; simp; omega) (.int .u8 (bits .and .u8 q1 127)))
 generalize bits .and .u8 q1 127 = v1 at *
 generalize wc.setCell ⟨A + 1, 31, none⟩ (.int .u8 v1) = wd at *
 clear c1 f1 HX1 H2
 obtain ⟨x1f, hx1⟩ : ∃ x1f, x1f = fp (leN mu) := ⟨_, rfl⟩
 have HXF := jh hx1
 have HMF : Hid (F32 mu x1f) := jh (by rw [hx1]; exact F32.of HML.out)
 clear hx1
 have HZ := jh (Blk.made wd zrg 65)
 have HEA := jh (Ext.alloc wd (.cells zrg.toArray 65))
 have HGS := jh (rgN_size (zcy 1) (zer_f).1 HML.out (zcy 1))
 have HGL : Hid ((rgN (smL 1) zer mu (smL 1)).length = zrg.length) := jh ((rgN_length (zcy 1) (zer_f).1 HML.out (zcy 1)).trans zrg_length.symm)
 obtain ⟨one, hone⟩ : ∃ o, o = smL 1 := ⟨_, rfl⟩
 obtain ⟨zr, hzr⟩ : ∃ o, o = zer := ⟨_, rfl⟩
 have HB1 := jh (build_one)
 have HB2 := jh (build_o)
 have HB3 := jh (build_ptN HML.out (zcy 1))
 have HB4 := jh (build_rgN (zcy 1) (zer_f).1 HML.out (zcy 1))
 have HOF := jh (sm_f)
 have HZF := jh (zer_f)
 rw [← hone] at HGS HGL HB1 HB2 HB3 HB4 HOF
 rw [← hzr] at HGS HGL HB2 HB4 HZF
 clear hone hzr
 go_upto_region 4 with (first | (refine zef rfl 23 #[(0, _)] rfl #[(0, .int .u8 1)] (by simp [Act.eval, Act.put]) (.agg (one.map bval).toArray) (HB1.out _) ?_) | (refine zef rfl 63 #[(0, _)] rfl #[(0, .agg (one.map bval).toArray)] (by simp [Act.eval, Act.put]) (.agg (ptN one zr).toArray) (HB2.out _) ?_) | (refine zef rfl 63 #[(0, _), (1, _)] rfl #[(0, .agg (mu.map bval).toArray), (1, .agg (one.map bval).toArray)] (by simp [Act.eval, Act.put]) (.agg (ptN mu one).toArray) (HB3.out _) ?_) | (refine zef rfl 65 #[(0, _), (1, _)] rfl #[(0, .agg (ptN one zr).toArray), (1, .agg (ptN mu one).toArray)] (by simp [Act.eval, Act.put]) (.agg (rgN one zr mu one).toArray) (HB4.out _) ?_) | (refine zab rfl _ _ rfl (A + 1) rfl _ _ _ _ HM.out Tryz.underlying23 HIM.out ?_) | (refine zac rfl _ _ _ rfl wd.heap.size (rgN one zr mu one) rfl rfl _ _ HZ.out HGL.out HGS.out (rgN_one _ _ _ _) ?_; intro we hb hg))
 have HX := jh (zae HEA.out hg (Nat.le_refl _))
 obtain ⟨T, hT⟩ : ∃ T, T = wd.heap.size := ⟨_, rfl⟩
 have HT : Hid (A + 1 + 1 < T) := jh (by rw [hT]; exact HR.out.lt)
 rw [← hT] at hb ⊢
 have HK := jh (zaa HK.out HX.out)
 have HM := jh (zaa HM.out HX.out)
 have HR := jh (zaa HR.out HX.out)
 have HE := jh (HE.out.trans HX.out)
 have HG := jh hb
 clear hb hg HX HZ HEA hT HGS HGL HB1 HB2 HB3 HB4
 go_wp2_with fail
 go_loopw [6] (fun i wr => ∃ (k : Nat) (a b c d : List UInt8), k ≤ 255 ∧ i = .int .i64 (254 - (k : Int)) ∧ Blk wr T (rgN a b c d) 65 ∧ F32 a (lrun x1f (leN cl) k).x2 ∧ F32 b (lrun x1f (leN cl) k).z2 ∧ F32 c (lrun x1f (leN cl) k).x3 ∧ F32 d (lrun x1f (leN cl) k).z3 ∧ Blk wr A (cl.map bval) 23 ∧ Blk wr (A + 1) (mu.map bval) 23 ∧ Blk wr (A + 1 + 1) (ints .u8 (List.replicate 32 0)) 23 ∧ Ext w wr) (fun i _ => (intOf i + 1).toNat)
 case atStart => exact ⟨0, one, zr, mu, one, by omega, rfl, HG.out, HOF.out, HZF.out, HMF.out, HOF.out, HK.out, HM.out, HR.out, HE.out⟩
 case round =>
  clear HG HOF HZF HK HM HR HE
  obtain ⟨k, a, b, c, d, hk, rfl, q1, q2, q3, q4, q5, q6, q7, q8, q9⟩ := hrel
  have i0' : (0 : Int) ≤ (k : Int) := Int.natCast_nonneg _
  obtain ⟨s, hs⟩ : ∃ s, s = lrun x1f (leN cl) k := ⟨_, rfl⟩
  rw [← hs] at q2 q3 q4 q5
  have HG := jh q1
  have Ha := jh q2
  have Hb := jh q3
  have Hc := jh q4
  have Hd := jh q5
  have HK := jh q6
  have HM := jh q7
  have HR := jh q8
  have HE := jh q9
  clear q1 q2 q3 q4 q5 q6 q7 q8 q9
  by_cases hlt : k < 255
  ·have i1 : (0 : Int) ≤ 254 - (k : Int) := by omega
   obtain ⟨m, hm⟩ : ∃ m, m = 254 - k := ⟨_, rfl⟩
   have hmi : 254 - (k : Int) = (m : Int) := by omega
   have hbit := leN_bit cl m (by have := HCL.out; omega)
   obtain ⟨bt, hbt⟩ : ∃ bt, bt = (cl.getD (m / 8) 0).toNat := ⟨_, rfl⟩
   rw [← hbt] at hbit
   have hbl : bt < 256 := by rw [hbt]; exact UInt8.toNat_lt _
   have htb : (leN cl).testBit m = decide (bt / 2 ^ (m % 8) % 2 = 1) := by rw [Nat.testBit_eq_decide_div_mod_eq, hbit]
   obtain ⟨t, ht⟩ : ∃ t, t = (leN cl).testBit m := ⟨_, rfl⟩
   rw [← ht] at htb
   have HTB : Hid (decide (bits .and .u8 ((bt / 2 ^ (m % 8) : Nat) : Int) 1 = 1) = t) := jh (by
    rw [andU1, htb]
    congr 1
    apply propext
    omega)
   have HST : Hid (lrun x1f (leN cl) (k + 1) = s.bit x1f t) := jh (by rw [lrun, ht, hm, hs])
   have HBT := jh hbt
   have HMI := jh hmi
   have hm8 : m / 8 < 32 := by omega
   have hmk : m ≤ 254 := by omega
   have HM8 := jh hm8
   have HMK := jh hmk
   have HCC : ∀ w', Ext wr w' → w'.cell? ⟨A, m / 8, none⟩ = some (.int .u8 (bt : Int)) := fun w' hw' => by
    have h := (zaa HK.out hw').cell (m / 8)
    rw [zbb (by rw [HCL.out]; exact HM8.out)] at h
    rw [h, ← HBT.out]
   have HCC := jh HCC
   have HSC := jh (bit_code x1f s t)
   clear hbit hbt hbl htb ht hm hmi hm8 hmk hs
   go_wp2_with fail
   refine zal 12 1 12 rfl (by kernel_rfl) (by kernel_rfl) (fun d v c a w h => by cases d <;> exact h) (by kernel_rfl) ?_
   refine zax _ _ T 0 (rgN a b c d) _ (by rfl) rfl rfl (fun w hw => (zaa HG.out hw).range) Tryz.underlying65 rfl (rgN_size Ha.out.1 Hb.out.1 Hc.out.1 Hd.out.1) ?_
   simp only [Act.put, nrm]
   refine zax _ _ (A + 1) 0 ((mu).map bval) _ (by rfl) rfl rfl (fun w hw => (zaa HM.out hw).range) Tryz.underlying23 rfl (zaf HMF.out.1) ?_
   simp only [Act.put, nrm]
   refine zba _ (.int .i64 (m : Int)) (by rfl) rfl (by show Value.int .i64 (254 - (k : Int)) = _; rw [HMI.out]) ?_
   simp only [Act.put, nrm]
   refine det_quo _ _ _ _ m 8 (by rfl) rfl rfl rfl (by omega) (by have := HMK.out; omega) ?_
   simp only [Act.put, nrm]
   refine zak _ _ _ _ A 32 (m / 8) (by rfl) rfl rfl rfl Tryz.underlying23 HM8.out (Tryz.sizeOf5) ?_
   simp only [Act.put, nrm]
   refine zao _ _ A (m / 8) (.int .u8 (bt : Int)) (by rfl) rfl rfl HCC.out (Tryz.isAgg5) ?_
   simp only [Act.put, nrm]
   refine zba _ (.int .i64 (m : Int)) (by rfl) rfl (by show Value.int .i64 (254 - (k : Int)) = _; rw [HMI.out]) ?_
   simp only [Act.put, nrm]
   refine det_rem _ _ _ _ m 8 (by rfl) rfl rfl rfl (by omega) (by have := HMK.out; omega) ?_
   simp only [Act.put, nrm]
   refine det_shrn .u8 _ _ _ _ bt (m % 8) (by rfl) rfl rfl rfl (by show m % 8 ≤ 8; omega) ?_
   simp only [Act.put, nrm]
   refine det_and _ _ _ _ .u8 _ _ (bits .and .u8 ((bt / 2 ^ (m % 8) : Nat) : Int) 1) (by rfl) rfl rfl rfl rfl ?_
   simp only [Act.put, nrm]
   refine det_eqi .u8 _ _ _ _ _ _ t (by rfl) rfl rfl rfl HTB.out ?_
   simp only [Act.put, nrm]
   refine zaj _ _ _ [.agg (rgN a b c d).toArray, .agg ((mu).map bval).toArray, .bool t] (.agg (rgN (pkL t (nbF (dblX s.x2 s.z2)) (nbF (sumX s.x2 s.z2 s.x3 s.z3))) (pkL t (nbF (dblZ s.x2 s.z2)) (nbF (sumZ s.x2 s.z2 s.x3 s.z3 x1f))) (pkL t (nbF (sumX s.x2 s.z2 s.x3 s.z3)) (nbF (dblX s.x3 s.z3))) (pkL t (nbF (sumZ s.x2 s.z2 s.x3 s.z3 x1f)) (nbF (dblZ s.x3 s.z3)))).toArray) (by rfl) rfl Tryz.call37 rfl (fun w hw => lclimb_f t w Ha.out Hb.out Hc.out Hd.out HMF.out) ?_
   simp only [Act.put, nrm]
   refine zbg (end_set (k := 12) _ _ _ _ T (rgN (pkL t (nbF (dblX s.x2 s.z2)) (nbF (sumX s.x2 s.z2 s.x3 s.z3))) (pkL t (nbF (dblZ s.x2 s.z2)) (nbF (sumZ s.x2 s.z2 s.x3 s.z3 x1f))) (pkL t (nbF (sumX s.x2 s.z2 s.x3 s.z3)) (nbF (dblX s.x3 s.z3))) (pkL t (nbF (sumZ s.x2 s.z2 s.x3 s.z3 x1f)) (nbF (dblZ s.x3 s.z3)))) (rgN a b c d) rfl (by kernel_rfl) (by kernel_rfl) (by kernel_rfl) rfl rfl rfl rfl HG.out ((rgN_length (pk_len t (zay _) (zay _)) (pk_len t (zay _) (zay _)) (pk_len t (zay _) (zay _)) (pk_len t (zay _) (zay _))).trans (rgN_length Ha.out.1 Hb.out.1 Hc.out.1 Hd.out.1).symm) (rgN_size (pk_len t (zay _) (zay _)) (pk_len t (zay _) (zay _)) (pk_len t (zay _) (zay _)) (pk_len t (zay _) (zay _))) (rgN_one _ _ _ _) (fun w8 hb8 hg8 => ?_))
   simp only [Act.put]
   go_wp2_with fail
   go_roundw
   case rel =>
    obtain ⟨e1, e2, e3, e4⟩ := HSC.out
    refine ⟨k + 1, _, _, _, _, by omega, by go_num, hb8, ?_, ?_, ?_, ?_, HK.out.grown hg8 (by have := HT.out; simp; omega), HM.out.grown hg8 (by have := HT.out; simp; omega), HR.out.grown hg8 (by have := HT.out; simp; omega), zae HE.out hg8 (by have := HT.out; have := HO.out; omega)⟩
    ·rw [HST.out, e1]; exact F32.pk t (F32.nb _) (F32.nb _)
    ·rw [HST.out, e2]; exact F32.pk t (F32.nb _) (F32.nb _)
    ·rw [HST.out, e3]; exact F32.pk t (F32.nb _) (F32.nb _)
    ·rw [HST.out, e4]; exact F32.pk t (F32.nb _) (F32.nb _)
   case measure => simp [intOf]; omega
  ·have hk' : k = 255 := by omega
   subst hk'
   have HF : Hid (nbF (s.x2 * fi s.z2) = ladB kb ub) := jh (by rw [hs, HXF.out, HME.out, HCE.out]; rfl)
   clear hs
   go_wp2_with fail
   refine zal 8 1 8 rfl (by kernel_rfl) (by kernel_rfl) (fun d v c a w h => by cases d <;> exact h) (by kernel_rfl) ?_
   refine zbc _ _ T _ 0 0 (by rfl) rfl rfl (fun w => by go_simp) ?_
   simp only [Act.put, nrm]
   refine zbc _ _ T _ 0 0 (by rfl) rfl rfl (fun w => by go_simp) ?_
   simp only [Act.put, nrm]
   refine zax _ _ T 0 ((a).map bval) _ (by rfl) rfl rfl (fun w hw => ptN_x (rgN_lo ((zaa HG.out hw).range))) Tryz.underlying23 rfl (zaf Ha.out.1) ?_
   simp only [Act.put, nrm]
   refine zbc _ _ T _ 0 0 (by rfl) rfl rfl (fun w => by go_simp) ?_
   simp only [Act.put, nrm]
   refine zbc _ _ T _ 0 32 (by rfl) rfl rfl (fun w => by go_simp) ?_
   simp only [Act.put, nrm]
   refine zax _ _ T 32 ((b).map bval) _ (by rfl) rfl rfl (fun w hw => ptN_z (rgN_lo ((zaa HG.out hw).range)) Ha.out.1 rfl) Tryz.underlying23 rfl (zaf Hb.out.1) ?_
   simp only [Act.put, nrm]
   refine zaj _ _ _ [.agg ((b).map bval).toArray] (.agg ((nbF (fi s.z2)).map bval).toArray) (by rfl) rfl Tryz.call39 rfl (fun w hw => finv_f w Hb.out) ?_
   simp only [Act.put, nrm]
   refine zaj _ _ _ [.agg ((a).map bval).toArray, .agg ((nbF (fi s.z2)).map bval).toArray] (.agg ((nbF (s.x2 * fi s.z2)).map bval).toArray) (by rfl) rfl Tryz.call38 rfl (fun w hw => fmul_f w Ha.out (F32.nb _)) ?_
   simp only [Act.put, nrm]
   refine zbg (end_set (k := 8) _ _ _ _ (A + 1 + 1) ((nbF (s.x2 * fi s.z2)).map bval) (ints .u8 (List.replicate 32 0)) rfl (by kernel_rfl) (by kernel_rfl) (by kernel_rfl) rfl rfl rfl rfl HR.out (by rw [List.length_map, (F32.nb _).1]; rfl) (zaf (F32.nb _).1) (zag _) (fun w8 hb8 hg8 => ?_))
   simp only [Act.put]
   go_wp2_with fail
   exact bodyPost_ret (zbk (by rfl) _ (A + 1 + 1) _ _ _ (by rfl) hb8 Tryz.underlying23 rfl (zaf (zay _))) rfl ⟨by rw [HF.out], zae HE.out hg8 (by have := HO.out; omega)⟩
section
section
variable {P : Program} {w : World}
theorem row_cut {t e : TypeId} (ht : P.underlying t = some (.slice e)) (hs : ∀ w, (sizeOf e).run P w = .ok 1 w) {v : Value} {vs : List Value} (h : Row1 w v vs) (n : Nat) (hn : n ≤ vs.length) :
  ∃ v', Row1 w v' (vs.drop n) ∧ ∀ w', (Instr.sliceAt t v (some (.int .i64 (n : Int))) none none).run P w' = .ok v' w' := by
 obtain ⟨a, cap, rfl, h1, h2, h3, h4⟩ := h
 have e2 : P.elem t = e := by unfold Program.elem; rw [ht]
 have ht2 : P.underlying t = some (.slice (P.elem t)) := by rw [e2]; exact ht
 have hr : ∀ w', (Instr.sliceAt t (.slice a vs.length cap) (some (.int .i64 (n : Int))) none none).run P w' = .ok (sliced a n vs.length cap 1) w' := fun w' => by
  rw [run_sliceAt_slice w' t _ _ _ _ ht2, run_slice_l (ht := ht2) (kl := .i64) (l := (n : Int)) (h0 := by omega) (h1 := by omega), e2, hs]
  simp
 refine ⟨_, ?_, hr⟩
 have hl : (vs.drop n).length = vs.length - n := by simp
 unfold sliced
 by_cases hc : cap = n
 ·rw [if_pos hc]
  have hv : vs.drop n = [] := List.drop_eq_nil_of_le (by omega)
  rw [hv]
  refine ⟨a, cap - n, by rw [show vs.length - n = 0 from by omega]; rfl, Nat.zero_le _, by omega, fun e => by have := h3 e; omega, fun h => absurd rfl h⟩
 ·rw [if_neg hc]
  refine ⟨a.map (·.add (n * 1)), cap - n, by rw [hl], by rw [hl]; omega, by omega, fun e => ?_, fun hne => ?_⟩
  ·cases a with
   | none => have := h3 rfl; omega
   | some a => cases e
  ·have hne2 : vs ≠ [] := by rintro rfl; simp at hne
   obtain ⟨b, off, rfl, g1, g2⟩ := h4 hne2
   refine ⟨b, off + n, by rw [Option.map_some, WideShapes.add_plain, Nat.mul_one], g1, fun i hi => ?_⟩
   rw [hl] at hi
   rw [Nat.add_assoc, g2 (n + i) (by omega), List.getElem?_drop]
theorem row_sliced {a : Option Addr} {cap : Nat} {vs : List Value} (h : Row1 w (.slice a vs.length cap) vs) (i k : Nat) (hik : i ≤ k) (hk : k ≤ vs.length) : Row1 w (sliced a i k cap 1) ((vs.drop i).take (k - i)) := by
 obtain ⟨a0, cap0, e0, h1, h2, h3, h4⟩ := h
 cases e0
 have hl : ((vs.drop i).take (k - i)).length = k - i := by simp; omega
 unfold sliced
 by_cases hc : cap = i
 ·rw [if_pos hc]
  have hv : (vs.drop i).take (k - i) = [] := List.eq_nil_of_length_eq_zero (by omega)
  rw [hv]
  refine ⟨a, cap - i, by rw [show k - i = 0 from by omega]; rfl, Nat.zero_le _, by omega, fun e => by have := h3 e; omega, fun h => absurd rfl h⟩
 ·rw [if_neg hc]
  refine ⟨a.map (·.add (i * 1)), cap - i, by rw [hl], by rw [hl]; omega, by omega, fun e => ?_, fun hne => ?_⟩
  ·cases a with
   | none => have := h3 rfl; omega
   | some a => cases e
  ·have hne2 : vs ≠ [] := by rintro rfl; simp at hne
   obtain ⟨b, off, rfl, g1, g2⟩ := h4 hne2
   refine ⟨b, off + i, by rw [Option.map_some, WideShapes.add_plain, Nat.mul_one], g1, fun j hj => ?_⟩
   rw [hl] at hj
   rw [Nat.add_assoc, g2 (i + j) (by omega), List.getElem?_take, if_pos hj, List.getElem?_drop]
theorem row_upto {t e : TypeId} (ht : P.underlying t = some (.slice e)) (hs : ∀ w, (sizeOf e).run P w = .ok 1 w) {v : Value} {vs : List Value} (h : Row1 w v vs) (k : Nat) (hk : k ≤ vs.length) :
  ∃ v', Row1 w v' (vs.take k) ∧ ∀ w', (Instr.sliceAt t v none (some (.int .i64 (k : Int))) none).run P w' = .ok v' w' := by
 obtain ⟨a, cap, rfl, h1, _⟩ := id h
 have e2 : P.elem t = e := by unfold Program.elem; rw [ht]
 have ht2 : P.underlying t = some (.slice (P.elem t)) := by rw [e2]; exact ht
 refine ⟨sliced a 0 k cap 1, by simpa using row_sliced h 0 k (Nat.zero_le _) hk, fun w' => ?_⟩
 rw [run_sliceAt_slice w' t _ _ _ _ ht2, run_slice_h (ht := ht2) (kh := .i64) (h := (k : Int)) (h0 := by omega) (h2 := by omega), e2, hs]
 simp
theorem rowB1 {v x : Value} {l : List UInt8} (h : Row1 w v [x]) (hx : Row1 w x (l.map bval)) : RowB w v [l] :=
 ⟨_, h, rfl, fun i y k hy hk => by
  match i with
  | 0 => simp at hy hk; subst hy; subst hk; exact hx
  | i + 1 => simp at hy⟩
theorem rowB2 {v x y : Value} {l m : List UInt8} (h : Row1 w v [x, y]) (hx : Row1 w x (l.map bval)) (hy : Row1 w y (m.map bval)) : RowB w v [l, m] :=
 ⟨_, h, rfl, fun i u k hu hk => by
  match i with
  | 0 => simp at hu hk; subst hu; subst hk; exact hx
  | 1 => simp at hu hk; subst hu; subst hk; exact hy
  | i + 2 => simp at hu⟩
theorem rowB3 {v x y z : Value} {l m n : List UInt8} (h : Row1 w v [x, y, z]) (hx : Row1 w x (l.map bval)) (hy : Row1 w y (m.map bval)) (hz : Row1 w z (n.map bval)) : RowB w v [l, m, n] :=
 ⟨_, h, rfl, fun i u k hu hk => by
  match i with
  | 0 => simp at hu hk; subst hu; subst hk; exact hx
  | 1 => simp at hu hk; subst hu; subst hk; exact hy
  | 2 => simp at hu hk; subst hu; subst hk; exact hz
  | i + 3 => simp at hu⟩
theorem zbo {c n : Nat} {cs : List Value} {t : TypeId} (h : Blk w c cs t) (hn : cs.length = n) (hm : n ≤ maxLen) : Row1 w (.slice (some ⟨c, 0, none⟩) n n) cs := by
 subst hn
 exact ⟨_, _, rfl, Nat.le_refl _, hm, (fun e => by cases e), fun _ => ⟨c, 0, rfl, h.lt, fun i _ => by rw [Nat.zero_add, h.cell]⟩⟩
theorem zbw {t : TypeId} {n : Nat} {e : TypeId} (ht : P.underlying t = some (.array n e)) (h : ∀ w, (sizeOf e).run P w = .ok 1 w) (hn : 0 < n) (A : Nat) (w : World) :
  (Instr.sliceAt t (.pointer (some ⟨A, 0, none⟩)) none none none).run P w = .ok (.slice (some ⟨A, 0, none⟩) n n) w := by
 have e1 : P.arrayLen t = n := by unfold Program.arrayLen; rw [ht]
 have e2 : P.elem t = e := by unfold Program.elem; rw [ht]
 rw [run_sliceAt_array_all w t ⟨A, 0, none⟩ (by rw [e1, e2]; exact ht), e2, h, e1]
 simp [slicedAt, Addr.add, show ¬ n = 0 by omega]
end
end
theorem index_ints {P : Program} {T e : TypeId} {n : Nat} {kd : IntKind} (hT : P.underlying T = some (.array n e)) (hs : ∀ w, (sizeOf e).run P w = .ok 1 w) (ha : ∀ w, (isAgg e).run P w = .ok false w) (h : List Int) (hl : h.length = n) (k : Nat) (hk : k < n) (w : World) :
  (Instr.index T (.agg (ints kd h).toArray) (.int .i64 (k : Int))).run P w = .ok (.int kd (h.getD k 0)) w := by
 have hg : (ints kd h)[k]? = some (.int kd (h.getD k 0)) := zav (by rw [hl]; exact hk)
 have hi : 0 ≤ (k : Int) ∧ (k : Int) < (n : Int) := by omega
 unfold Instr.index
 simp only [asIntOf, Sem.run_bind, Sem.run_pure, Result.andThen_ok, run_underlying hT, hi, hs, part, ha]
 rw [if_pos ⟨trivial, trivial⟩]
 simp only [Sem.run_bind, hs, ha, Result.andThen_ok, Int.toNat_natCast, Nat.mul_one, List.getElem?_toArray, hg, Bool.false_eq_true, if_false, Sem.run_pure]
theorem cut_from {P : Program} {t e : TypeId} {n : Nat} (ht : P.underlying t = some (.array n e)) (h : ∀ w, (sizeOf e).run P w = .ok 1 w) (w : World) (A p : Nat) (hp : p < n) :
  (Instr.sliceAt t (.pointer (some ⟨A, 0, none⟩)) (some (.int .i64 (p : Int))) none none).run P w = .ok (.slice (some ⟨A, p, none⟩) (n - p) (n - p)) w := by
 have e1 : P.arrayLen t = n := by unfold Program.arrayLen; rw [ht]
 have e2 : P.elem t = e := by unfold Program.elem; rw [ht]
 rw [run_sliceAt_array_l w t ⟨A, 0, none⟩ (by rw [e1, e2]; exact ht) .i64 (p : Int) (by omega) (by rw [e1]; omega), e2, h, e1]
 simp [slicedAt, Addr.add, show ¬ n = p by omega]
 exact fun h => h.symm
def orL (z : List UInt8) : Nat → UInt8
 | 0 => 0
 | k + 1 => orL z k ||| z.getD k 0
theorem u8_or_zero (a b : UInt8) : a ||| b = 0 ↔ a = 0 ∧ b = 0 := by
 rw [← UInt8.toNat_inj, ← UInt8.toNat_inj, ← UInt8.toNat_inj, UInt8.toNat_or]
 exact Nat.or_eq_zero_iff
theorem orL_zero (z : List UInt8) : ∀ k, orL z k = 0 ↔ ∀ i, i < k → z.getD i 0 = 0
 | 0 => ⟨fun _ i h => absurd h (Nat.not_lt_zero _), fun _ => rfl⟩
 | k + 1 => by
  rw [orL, u8_or_zero, orL_zero z k]
  constructor
  ·rintro ⟨h1, h2⟩ i hi
   by_cases e : i = k
   ·rw [e]; exact h2
   ·exact h1 i (by omega)
  ·intro h
   exact ⟨fun i hi => h i (by omega), h k (by omega)⟩
theorem orL_zer {z : List UInt8} (hz : z.length = 32) : orL z 32 = 0 ↔ z = zer := by
 rw [orL_zero]
 unfold zer
 constructor
 ·intro h
  apply List.ext_getElem (by rw [hz]; simp)
  intro i h1 h2
  have e := h i (by omega)
  simp [List.getD, h1] at e
  rw [e, List.getElem_replicate]
 ·rintro rfl i hi
  simp only [List.getD, List.getElem?_replicate, if_pos hi, Option.getD_some]
theorem orL_nat (z : List UInt8) (hz : z.length = 32) : decide ((orL z 32).toNat = 0) = decide (z = zer) := by
 have e : (orL z 32).toNat = 0 ↔ z = zer := by rw [← orL_zer hz, ← UInt8.toNat_inj]; rfl
 by_cases h : z = zer
 ·rw [decide_eq_true h, decide_eq_true (e.2 h)]
 ·rw [decide_eq_false h, decide_eq_false (fun h' => h (e.1 h'))]
theorem lbval_ints (l : List UInt8) : l.map bval = ints .u8 (l.map fun b => (b.toNat : Int)) := by simp [ints, bval]
theorem lisz_any (z : List UInt8) (w : World) (hz : z.length = 32) : Calls Tryz.prog 24 #[.agg (z.map bval).toArray] w fun e w' => e = .returned (.bool (decide (z = zer))) ∧ Below w.heap.size w w' := by
 have HZL := jh hz
 have HB := jh (boxes_one w (z.map bval) 23)
 have HI := jh (zaf hz)
 clear hz
 go_enter Tryz.func24, Tryz.ntmps24
 go_upto_region 1 with (fail)
 obtain ⟨H1, HE⟩ := HB.out
 change Code.wp _ _ _ _ (w.alloc (.cells (z.map bval).toArray 23))
 generalize w.alloc (.cells (z.map bval).toArray 23) = wa at *
 obtain ⟨A, hA⟩ : ∃ A, A = w.heap.size := ⟨_, rfl⟩
 have HAW : Hid (w.heap.size ≤ A) := jh (by omega)
 rw [← hA] at H1 ⊢
 have H1 := jh H1
 have HE : Hid (Ext w wa) := jh HE
 clear hA HB
 go_upto_region 3 with (refine zab rfl _ _ rfl A rfl _ _ _ _ H1.out Tryz.underlying23 HI.out ?_)
 have HO := jh (orL_nat z HZL.out)
 obtain ⟨zi, hzi⟩ : ∃ zi, zi = z.map fun b => (b.toNat : Int) := ⟨_, rfl⟩
 have HZI := jh hzi
 have HZE := jh (lbval_ints z)
 rw [← hzi] at HZE
 clear hzi
 rw [HZE.out]
 go_loop [3, 7] (fun bv iv => ∃ k : Nat, k ≤ 32 ∧ bv = .int .u8 ((orL z k).toNat : Int) ∧ iv = .int .i64 (k : Int)) (fun _ iv => 32 - (intOf iv).toNat)
 case atStart => exact ⟨0, by omega, rfl, rfl⟩
 case round =>
  obtain ⟨k, hk, rfl, rfl⟩ := hrel
  have k0 : (0 : Int) ≤ (k : Int) := Int.natCast_nonneg _
  by_cases hlt : k < 32
  ·have k1 : (k : Int) < 32 := by omega
   have hix := index_ints (kd := .u8) Tryz.underlying23 Tryz.sizeOf5 Tryz.isAgg5 zi (by rw [HZI.out, List.length_map]; exact HZL.out) k hlt
   have hge : zi.getD k 0 = ((z.getD k 0).toNat : Int) := by rw [HZI.out]; simp [List.getD, show k < z.length by have := HZL.out; omega]
   rw [hge] at hix
   have hor := u8_or (orL z k) (z.getD k 0)
   rw [show orL z k ||| z.getD k 0 = orL z (k + 1) from rfl] at hor
   clear hge
   generalize ((orL z k).toNat : Int) = q1 at *
   generalize ((z.getD k 0).toNat : Int) = q2 at *
   generalize hq3 : ((orL z (k + 1)).toNat : Int) = q3 at *
   go_wp2_with fail
   go_round
   case rel => exact ⟨k + 1, by omega, by rw [hq3], by go_num⟩
   case measure => simp [intOf]; omega
  ·have hk' : k = 32 := by omega
   subst hk'
   generalize (orL z 32).toNat = q at *
   have hd : ((q : Int) == 0) = decide (z = zer) := by
    rw [← HO.out, Bool.eq_iff_iff]
    simp
   obtain ⟨r, hr⟩ : ∃ r, r = decide (z = zer) := ⟨_, rfl⟩
   rw [← hr] at hd
   have HRQ := jh hr
   clear hr HO
   go_wp2_with fail
   go_ret
   exact ⟨by rw [← HRQ.out]; rfl, HE.out⟩
theorem fld_leN_p2 : leN (bytesN 32 (pP - 2).toNat) = (pP - 2).toNat := by decide +kernel
def ElF (v : Value) (f : Fp) : Prop := ∃ x : Int, IsEl v x ∧ fp x = f
theorem ElF.form {v : Value} {f : Fp} (h : ElF v f) : ∃ zs : List Int, v = .agg (ints .i64 zs).toArray ∧ zs.length = 16 := by
 obtain ⟨x, ⟨zs, h1, h2, _⟩, _⟩ := h
 exact ⟨zs, h1, h2⟩
theorem el_zero : ElF (.agg (ints .i64 (List.replicate 16 0)).toArray) 0 := ⟨0, ⟨List.replicate 16 0, rfl, by simp, fun z hz => by rw [List.eq_of_mem_replicate hz]; omega, 0, by decide⟩, fp_zero⟩
def Far (c : Nat) (w w' : World) : Prop := ∃ wx, Ext w wx ∧ (w' = wx ∨ wx.grownBy w' (some c))
theorem zbn {c : Nat} {w w' : World} (h : Ext w w') : Far c w w' := ⟨w', h, Or.inl rfl⟩
theorem fars_put {c : Nat} {w wx w' : World} (h : Ext w wx) (g : wx.grownBy w' (some c)) : Far c w w' := ⟨wx, h, Or.inr g⟩
theorem zca {c a : Nat} {w w' : World} {cs : List Value} {t : TypeId} (H : Blk w a cs t) (ha : c ≠ a) (h : Far c w w') : w'.rangeAt a 0 cs := by
 obtain ⟨wx, h1, h2⟩ := h
 rcases h2 with h2 | h2
 ·rw [h2]
  exact zbl H h1
 ·exact ((zaa H h1).grown h2 (by simp; omega)).range
theorem fp_lit : fp 121665 = 121665 := by
 apply fin_int
 rw [fp_int]
 decide +kernel
theorem build_num (w : World) : (Instr.build 23 #[]).run Tryz.prog w = .ok (.agg (zer.map bval).toArray) w := by
 simp [Instr.build, Tryz.zeroValue23]
 rfl
theorem LPub_num (k : List UInt8) (w : World) (hk : k.length = 32) : Calls Tryz.prog 12 #[.agg (k.map bval).toArray] w fun e w' => e = .returned (.agg ((pubB k).map bval).toArray) ∧ Below w.heap.size w w' := by
 have HB := jh (boxes2 w (k.map bval) (ints .u8 (List.replicate 32 0)) 23 23)
 have HkL := jh hk
 clear hk
 go_enter Tryz.func12, Tryz.ntmps12
 go_upto_region 1 with (fail)
 obtain ⟨H1, H3, HE⟩ := HB.out
 change Code.wp _ _ _ _ ((w.alloc (.cells (k.map bval).toArray 23)).alloc (.cells (ints .u8 (List.replicate 32 0)).toArray 23))
 generalize (w.alloc (.cells (k.map bval).toArray 23)).alloc (.cells (ints .u8 (List.replicate 32 0)).toArray 23) = wa at *
 obtain ⟨A, hA⟩ : ∃ A, A = w.heap.size := ⟨_, rfl⟩
 have HAW : Hid (w.heap.size ≤ A) := jh (by omega)
 rw [← hA] at H1 H3 ⊢
 have H1 := jh H1
 have H3 := jh H3
 have HE : Hid (Ext w wa) := jh HE
 clear hA HB
 have HIk := jh (zaf HkL.out)
 have HZL : Hid ((pubB k).length = 32) := jh (zct _ _)
 obtain ⟨n9, hn9⟩ : ∃ n9, n9 = nineB := ⟨_, rfl⟩
 have HC := jh (LMul_num k n9 wa HkL.out (by rw [hn9]; exact nineB_length))
 rw [show ladB k n9 = pubB k from by rw [hn9]; rfl] at HC
 have HB9 : Hid (∀ w, (Instr.build 23 #[(0, .int .u8 9)]).run Tryz.prog w = .ok (.agg (n9.map bval).toArray) w) := jh (fun w => by
  rw [hn9]
  refine run_build w _ _ _ ?_
  kernel_rfl)
 clear hn9
 obtain ⟨z, hz⟩ : ∃ z, z = pubB k := ⟨_, rfl⟩
 rw [← hz] at HC HZL
 have HZQ := jh hz
 clear hz
 have HIZ := jh (zaf HZL.out)
 have HLZ : Hid ((z.map bval).length = (ints .u8 (List.replicate 32 0)).length) := jh (by rw [List.length_map, zad, HZL.out]; rfl)
 go_wp2_with (first | (refine zab rfl _ _ rfl A rfl _ _ _ _ H1.out Tryz.underlying23 HIk.out ?_) | (refine zef rfl 23 #[(0, _)] rfl #[(0, .int .u8 9)] (by simp [Act.eval, Act.put]) (.agg (n9.map bval).toArray) (HB9.out _) ?_))
 refine HC.out.mono ?_
 rintro e w5 ⟨rfl, hb⟩
 have H3 := jh (zaa H3.out hb)
 have HE := jh (HE.out.trans hb)
 clear hb HC H1
 go_wp2_with (refine zac rfl _ _ _ rfl (A + 1) (z.map bval) rfl rfl _ _ H3.out HLZ.out HIZ.out (zag _) ?_; intro w7 hb7 hg7)
 refine bodyPost_ret (zap rfl _ (A + 1) _ _ _ _ rfl hb7 Tryz.underlying23 HIZ.out) rfl ⟨by rw [← HZQ.out], zae HE.out hg7 (by have := HAW.out; omega)⟩
theorem LShared_num (k u : List UInt8) (w : World) (hk : k.length = 32) (hu : u.length = 32) : Calls Tryz.prog 13 #[.agg (k.map bval).toArray, .agg (u.map bval).toArray] w fun e w' => e = .returned (.tuple #[.agg ((ladB k u).map bval).toArray, .int .i64 (shErr k u)]) ∧ Below w.heap.size w w' := by
 have HB := jh (boxes3 w (k.map bval) (u.map bval) (ints .u8 (List.replicate 32 0)) 23 23 23)
 have HkL := jh hk
 have HuL := jh hu
 clear hk hu
 go_enter Tryz.func13, Tryz.ntmps13
 go_upto_region 1 with (fail)
 obtain ⟨H1, H2, H3, HE⟩ := HB.out
 change Code.wp _ _ _ _ (((w.alloc (.cells (k.map bval).toArray 23)).alloc (.cells (u.map bval).toArray 23)).alloc (.cells (ints .u8 (List.replicate 32 0)).toArray 23))
 generalize ((w.alloc (.cells (k.map bval).toArray 23)).alloc (.cells (u.map bval).toArray 23)).alloc (.cells (ints .u8 (List.replicate 32 0)).toArray 23) = wa at *
 obtain ⟨A, hA⟩ : ∃ A, A = w.heap.size := ⟨_, rfl⟩
 have HAW : Hid (w.heap.size ≤ A) := jh (by omega)
 rw [← hA] at H1 H2 H3 ⊢
 have H1 := jh H1
 have H2 := jh H2
 have H3 := jh H3
 have HE : Hid (Ext w wa) := jh HE
 clear hA HB
 have HIk := jh (zaf HkL.out)
 have HIu := jh (zaf HuL.out)
 have HZL : Hid ((ladB k u).length = 32) := jh (zct _ _)
 have HC := jh (LMul_num k u wa HkL.out HuL.out)
 obtain ⟨z, hz⟩ : ∃ z, z = ladB k u := ⟨_, rfl⟩
 have HER : Hid (shErr k u = if z = zer then 21 else 0) := jh (by rw [hz]; rfl)
 rw [← hz] at HC HZL
 have HZQ := jh hz
 clear hz
 have HIZ := jh (zaf HZL.out)
 have HLZ : Hid ((z.map bval).length = (ints .u8 (List.replicate 32 0)).length) := jh (by rw [List.length_map, zad, HZL.out]; rfl)
 go_wp2_with (first | (refine zab rfl _ _ rfl A rfl _ _ _ _ H1.out Tryz.underlying23 HIk.out ?_) | (refine zab rfl _ _ rfl (A + 1) rfl _ _ _ _ H2.out Tryz.underlying23 HIu.out ?_))
 refine HC.out.mono ?_
 rintro e w5 ⟨rfl, hb⟩
 have H3 := jh (zaa H3.out hb)
 have HE := jh (HE.out.trans hb)
 clear hb HC H1 H2
 have HZ := jh (Blk.made w5 (ints .u8 (List.replicate 32 0)) 23)
 have HEA := jh (Ext.alloc w5 (.cells (ints .u8 (List.replicate 32 0)).toArray 23))
 go_upto_region 2 with (refine zac rfl _ _ _ rfl w5.heap.size (z.map bval) rfl rfl _ _ HZ.out HLZ.out HIZ.out (zag _) ?_; intro w6 hb6 hg6)
 have HX := jh (zae HEA.out hg6 (Nat.le_refl _))
 have H3 := jh (zaa H3.out HX.out)
 have HE := jh (HE.out.trans HX.out)
 have HD := jh hb6
 generalize w5.heap.size = D at *
 clear hb6 hg6 HZ HEA HX
 have HQ := jh (lisz_any z w6 HZL.out)
 obtain ⟨r, hr⟩ : ∃ r, r = decide (z = zer) := ⟨_, rfl⟩
 rw [← hr] at HQ
 have HRQ := jh hr
 clear hr
 go_wp2_with (refine zab rfl _ _ rfl D rfl _ _ _ _ HD.out Tryz.underlying23 HIZ.out ?_)
 refine HQ.out.mono ?_
 rintro e w7 ⟨rfl, hb⟩
 have H3 := jh (zaa H3.out hb)
 have HD := jh (zaa HD.out hb)
 have HE := jh (HE.out.trans hb)
 clear hb HQ
 cases r with
 | true =>
  have hzz : z = zer := of_decide_eq_true HRQ.out.symm
  have HEQ : Hid (shErr k u = 21) := jh (by rw [HER.out, if_pos hzz])
  have HNZ : Hid ((ints .u8 (List.replicate 32 0)) = z.map bval) := jh (by rw [hzz]; rfl)
  have HNI : Hid ((Tryz.prog.info? 23).map (·.size) = some (ints .u8 (List.replicate 32 0)).length) := jh (by rw [HNZ.out]; exact HIZ.out)
  clear hzz
  go_wp2_with (refine zac rfl _ _ _ rfl (A + 1 + 1) (ints .u8 (List.replicate 32 0)) rfl rfl _ _ H3.out rfl HNI.out (zai _ _) ?_; intro w8 hb7 hg7)
  refine bodyPost_ret (zbq (p := 4) (u := 5) (by rfl) _ (A + 1 + 1) _ _ _ (by rfl) hb7 Tryz.underlying23 rfl HNI.out) rfl ⟨by rw [← HZQ.out, HEQ.out, HNZ.out]; rfl, zae HE.out hg7 (by have := HAW.out; omega)⟩
 | false =>
  have hzz : ¬ z = zer := of_decide_eq_false HRQ.out.symm
  have HEQ : Hid (shErr k u = 0) := jh (by rw [HER.out, if_neg hzz])
  clear hzz
  go_wp2_with (first | (refine zab rfl _ _ rfl D rfl _ _ _ _ HD.out Tryz.underlying23 HIZ.out ?_) | (refine zac rfl _ _ _ rfl (A + 1 + 1) (z.map bval) rfl rfl _ _ H3.out HLZ.out HIZ.out (zag _) ?_; intro w8 hb7 hg7))
  refine bodyPost_ret (zbq (p := 4) (u := 5) (by rfl) _ (A + 1 + 1) _ _ _ (by rfl) hb7 Tryz.underlying23 rfl HIZ.out) rfl ⟨by rw [← HZQ.out, HEQ.out]; rfl, zae HE.out hg7 (by have := HAW.out; omega)⟩
section
theorem made_zero (n : Nat) : madeCells #[.int .u8 0] n = Array.replicate n (bval 0) := by
 apply Array.ext'
 unfold madeCells
 rw [Array.toList_map]
 apply List.ext_getElem
 ·simp
 ·intro i h1 h2
  simp [Nat.mod_one, bval]
def zB (n : Nat) : List UInt8 := List.replicate n 0
theorem zch (n : Nat) : (zB n).length = n := by simp [zB]
section
variable {P : Program}
theorem zdi (w : World) (t e : TypeId) (ht : P.underlying t = some (.slice e)) (i : TypeInfo) (hi : P.info? e = some i) (hz : i.zero = some (.int .u8 0)) (h1 : i.size = 1) (hb : i.bytes = 1) (m : Nat) (hm : m ≤ 1099511627776) :
  (Instr.makeSlice t (.int .i64 (m : Int)) (.int .i64 (m : Int))).run P w = .ok (.slice (some ⟨w.heap.size, 0, none⟩) m m) (w.alloc (.cells ((zB m).map bval).toArray e)) := by
 have hmk := run_make w t e i (.int .u8 0) ht hi hz .i64 .i64 (m : Int) (m : Int) (by omega) (by omega) (by rw [hb]; omega) (by omega)
 have hmc : madeCells (Value.cells (.int .u8 0)) (m * 1) = Array.replicate m (bval 0) := by rw [Nat.mul_one]; exact made_zero m
 rw [Int.toNat_natCast, h1, hmc] at hmk
 rw [hmk]
 simp [zB]
end
theorem splice_bytes (l c : List UInt8) (f : Nat) : splice (l.map bval) f (c.map bval) = (l.take f ++ c ++ l.drop (f + c.length)).map bval := by
 unfold splice
 simp
theorem zdb (n : Nat) (c : List UInt8) : splice ((zB n).map bval) 0 (c.map bval) = (c ++ List.replicate (n - c.length) 0).map bval := by
 rw [splice_bytes]
 simp [zB]
theorem row_src {w : World} {a : Option Addr} {n cap : Nat} {l : List UInt8} (h : Row1 w (.slice a n cap) (l.map bval)) (c : List UInt8) (hc : c = l.take c.length) (hcl : c.length ≤ l.length) {w' : World} (he : Ext w w') :
  0 < (c.map bval).length → ∃ ad, a = some ad ∧ ∀ (j : Nat) (v : Value), (c.map bval)[j]? = some v → w'.cell? (ad.add j) = some v := fun hpos => by
 obtain ⟨a', cap', e, t1, t2, t3, t4⟩ := h
 cases e
 rw [List.length_map] at hpos t4
 obtain ⟨b3, off3, rfl, t5, t6⟩ := t4 (by intro e; have h := congrArg List.length e; rw [List.length_map] at h; simp only [List.length_nil] at h; omega)
 refine ⟨_, rfl, fun j v hj => ?_⟩
 have hjl : j < c.length := by
  rcases Nat.lt_or_ge j c.length with h | h
  ·exact h
  ·rw [List.getElem?_eq_none (by rw [List.length_map]; exact h)] at hj; cases hj
 have e := t6 j (by omega)
 have e2 : (l.map bval)[j]? = (c.map bval)[j]? := by
  conv => rhs; rw [hc]
  rw [List.getElem?_map, List.getElem?_map, List.getElem?_take, if_pos (by first | exact hjl | (rw [List.length_take]; omega))]
 rw [WideShapes.add_plain, ← hj, ← e2, ← e]
 exact he.cell (p := ⟨b3, off3 + j, none⟩) t5
section
variable {P : Program}
theorem grown_setRow (w : World) (g : Nat) (cs : Array Value) : w.grownBy (w.setRow g cs) (some g) :=
 ⟨rfl, rfl, rfl, by simp [World.setRow], fun k _ hk => setRow_other w g k cs (fun e => hk (by rw [e]))⟩
theorem zdl {w : World} {o : Oper} {a : Act} {K : Act → World → Prop} {Q : Exit → Act → World → Prop} (d s : Operand) (dT sT : TypeId)
  (ho : o.op = .call { callee := .builtin .copy, args := #[d, s], argTypes := #[dT, sT] }) (elem : TypeId) (hu : P.underlying dT = some (.slice elem)) (hsz : (P.info? elem).map (·.size) = some 1)
  (dp sp : Option Addr) (dLen dCap sLen sCap : Nat) (hd : a.eval d = .slice dp dLen dCap) (hs : a.eval s = .slice sp sLen sCap)
  (g off : Nat) (cur : List Value) (t : TypeId) (hg : Blk w g cur t) (cs : List Value) (hn : cs.length = Nat.min sLen dLen)
  (hpos : 0 < cs.length → dp = some ⟨g, off, none⟩ ∧ ∃ ad, sp = some ad ∧ ∀ j v, cs[j]? = some v → w.cell? (ad.add j) = some v)
  (hfit : off + cs.length ≤ cur.length) (h1 : ∀ v ∈ cs, v.oneCell' = true)
  (h : ∀ w', Blk w' g (splice cur off cs) t → w.grownBy w' (some g) → K (a.put o.dst (goInt cs.length)) w') : o.wp P a w K Q := by
 by_cases h0 : cs.length = 0
 ·obtain rfl : cs = [] := List.eq_nil_of_length_eq_zero h0
  have hrun := run_copy_none (P := P) w dT sT o.type elem dp sp dLen dCap sLen sCap hu hsz (by simpa using hn.symm)
  unfold Oper.wp
  simp [execOp, ho, resolve, invoke, builtin, hd, hs, hrun, Result.andThen]
  exact h w (by simpa [splice] using hg) (World.grownBy.refl _ _)
 ·obtain ⟨rfl, ad, rfl, hsrc⟩ := hpos (by omega)
  have hrun := run_copy_row (P := P) w dT sT o.type elem g off dLen dCap ad sLen sCap cur.toArray t cs hu hsz hg hn hsrc (by simpa using hfit) h1
  unfold Oper.wp
  simp [execOp, ho, resolve, invoke, builtin, hd, hs, hrun, Result.andThen]
  exact h _ (show _ = _ by simpa [splice] using setRow_heap w g _ _ t _ hg) (grown_setRow _ _ _)
theorem zcx {w : World} {ops : Array Oper} {rest : List Oper} {o : Oper} {a : Act} {Q : Exit → Act → World → Prop} (hgd : o.guard = none) (d s : Operand) (dT sT : TypeId)
  (ho : o.op = .call { callee := .builtin .copy, args := #[d, s], argTypes := #[dT, sT] }) (elem : TypeId) (hu : P.underlying dT = some (.slice elem)) (hsz : (P.info? elem).map (·.size) = some 1)
  (dp sp : Option Addr) (dLen dCap sLen sCap : Nat) (hd : a.eval d = .slice dp dLen dCap) (hs : a.eval s = .slice sp sLen sCap)
  (g off : Nat) (cur : List Value) (t : TypeId) (hg : Blk w g cur t) (cs : List Value) (hn : cs.length = Nat.min sLen dLen)
  (hpos : 0 < cs.length → dp = some ⟨g, off, none⟩ ∧ ∃ ad, sp = some ad ∧ ∀ j v, cs[j]? = some v → w.cell? (ad.add j) = some v)
  (hfit : off + cs.length ≤ cur.length) (h1 : ∀ v ∈ cs, v.oneCell' = true)
  (h : ∀ w', Blk w' g (splice cur off cs) t → w.grownBy w' (some g) → wpList P ops Q rest (a.put o.dst (goInt cs.length)) w') :
  wpList P ops Q (o :: rest) a w := by
 by_cases h0 : cs.length = 0
 ·obtain rfl : cs = [] := List.eq_nil_of_length_eq_zero h0
  refine wpList_copy_nothing hgd d s dT sT ho elem hu hsz dp sp dLen dCap sLen sCap hd hs (by simpa using hn.symm) ?_
  exact h w (by simpa [splice] using hg) (World.grownBy.refl _ _)
 ·obtain ⟨rfl, ad, rfl, hsrc⟩ := hpos (by omega)
  refine wpList_copy_own hgd d s dT sT ho elem hu hsz g off dLen dCap ad sLen sCap hd hs cur.toArray t hg cs hn hsrc (by simpa using hfit) h1 ?_
  exact h _ (show _ = _ by simpa [splice] using setRow_heap w g _ _ t _ hg) (grown_setRow _ _ _)
end
theorem own_blk {w : World} {base g n : Nat} {e : TypeId} {cs : List Value} (h : Blk w g cs e) (hb : base ≤ g) (hn : cs.length = n) (hm : n ≤ maxLen) : w.ownsRow base e 1 (.slice (some ⟨g, 0, none⟩) n n) n cs := by
 subst hn
 exact ⟨by simp, Or.inr ⟨g, cs.length, cs.toArray, rfl, hb, h, Nat.le_refl _, hm, by simp, by rw [Nat.mul_one]; exact List.take_of_length_le (Nat.le_refl _)⟩⟩
end
theorem xor_u8 (a b : UInt8) : bits .xor .u8 (a.toNat : Int) (b.toNat : Int) = ((a ^^^ b).toNat : Int) := by
 have e1 : (BitVec.ofInt 8 (a.toNat : Int)) = a.toBitVec := by
  apply BitVec.eq_of_toNat_eq
  have := a.toNat_lt
  rw [BitVec.toNat_ofInt]
  show _ = a.toNat
  omega
 have e2 : (BitVec.ofInt 8 (b.toNat : Int)) = b.toBitVec := by
  apply BitVec.eq_of_toNat_eq
  have := b.toNat_lt
  rw [BitVec.toNat_ofInt]
  show _ = b.toNat
  omega
 show IntKind.u8.wrap ((BitVec.ofInt 8 (a.toNat : Int) ^^^ BitVec.ofInt 8 (b.toNat : Int)).toNat : Nat) = _
 rw [e1, e2, IntKind.wrap_u8]
 have h := (a ^^^ b).toNat_lt
 have e3 : (a.toBitVec ^^^ b.toBitVec).toNat = (a ^^^ b).toNat := rfl
 rw [e3]
 omega
theorem info_two {P : Program} {t : TypeId} {z : Value} {n : Nat} (h : (P.info? t).map (fun i => (i.zero, i.size)) = some (some z, n)) : ∃ i, P.info? t = some i ∧ i.zero = some z ∧ i.size = n := by
 cases hp : P.info? t with
 | none => rw [hp] at h; cases h
 | some i =>
  rw [hp] at h
  simp only [Option.map_some, Option.some.injEq, Prod.mk.injEq] at h
  exact ⟨i, rfl, h.1, h.2⟩
theorem row_form2 {w : World} {v : Value} {vs : List Value} (h : Row1 w v vs) : ∃ a n c, v = .slice a n c := by
 obtain ⟨a, c, rfl, _⟩ := h
 exact ⟨_, _, _, rfl⟩
theorem row_form {w : World} {v : Value} {vs : List Value} (h : Row1 w v vs) : ∃ a n c, v = .slice a n c := by
 obtain ⟨a, c, rfl, _⟩ := h
 exact ⟨_, _, _, rfl⟩
theorem one_u8 : (Tryz.prog.info? 5).map (·.size) = some 1 := by kernel_rfl
theorem hKey_long {k : List UInt8} (h : 64 < k.length) : hKey k = sha256 k := by
 unfold hKey
 rw [if_pos h]
def xTo (l : List UInt8) (c : UInt8) (i : Nat) : List UInt8 := (l.take i).map (· ^^^ c) ++ l.drop i
theorem xTo_length (l : List UInt8) (c : UInt8) (i : Nat) : (xTo l c i).length = l.length := by
 unfold xTo
 rw [List.length_append, List.length_map, List.length_take, List.length_drop]
 omega
theorem xTo_getD (l : List UInt8) (c : UInt8) (i : Nat) (h : i < l.length) : (xTo l c i).getD i 0 = l.getD i 0 := by
 unfold xTo
 have e : ((l.take i).map (· ^^^ c)).length = i := by rw [List.length_map, List.length_take]; omega
 simp only [List.getD]
 rw [List.getElem?_append_right (by omega), e, Nat.sub_self, List.getElem?_drop, Nat.add_zero]
theorem xTo_set (l : List UInt8) (c : UInt8) (i : Nat) (h : i < l.length) : (xTo l c i).set i (l.getD i 0 ^^^ c) = xTo l c (i + 1) := by
 unfold xTo
 have e : ((l.take i).map (· ^^^ c)).length = i := by rw [List.length_map, List.length_take]; omega
 have e3 : l.getD i 0 = l[i] := by simp [List.getD, h]
 rw [List.set_append_right _ _ (by omega), e, Nat.sub_self, List.drop_eq_getElem_cons h, List.set_cons_zero, e3, List.take_succ_eq_append_getElem h, List.map_append, List.append_assoc]
 rfl
theorem xTo_zero (l : List UInt8) (c : UInt8) : xTo l c 0 = l := by simp [xTo]
theorem xTo_full {l : List UInt8} (c : UInt8) {n : Nat} (h : l.length = n) : xTo l c n = l.map (· ^^^ c) := by
 unfold xTo
 rw [List.take_of_length_le (by omega), List.drop_of_length_le (by omega), List.append_nil]
theorem usome : (Tryz.prog.underlying 3).isSome = true := by kernel_rfl
theorem hkT_le (k info : List UInt8) (j : Nat) : (hkT k info j).length ≤ 32 := by
 cases j with
 | zero => simp [hkT]
 | succ j => rw [hkT_length]; omega
section
section
variable {P : Program}
theorem run_bytes_row (w : World) (src dst e : TypeId) (l : List UInt8) {u : TypeDesc} (hs : P.underlying src = some u) (hd : P.underlying dst = some (.slice e)) (he : P.underlying e = some (.int .u8)) (hl : l.length ≤ maxLen) :
  ∃ a c w', (convert src dst (.string ⟨l.toArray⟩)).run P w = .ok (.slice a l.length c) w' ∧ Row1 w' (.slice a l.length c) (l.map bval) ∧ Ext w w' := by
 have hsz : (⟨l.toArray⟩ : ByteArray).size = l.length := by simp [ByteArray.size]
 refine ⟨some ⟨w.heap.size, 0, none⟩, grownCap w l.length 0 e, Lib.bytesWorld w e ⟨l.toArray⟩, ?_, ?_, ?_⟩
 ·rw [Lib.run_convert_string_bytes w src dst e ⟨l.toArray⟩ hs hd he, hsz]
 ·have hll : (l.map bval).length = l.length := List.length_map _
  refine ⟨_, _, by rw [hll], ?_, grownCap_le_maxLen _ _ _ _ hl, (fun e => by cases e), fun _ => ⟨w.heap.size, 0, rfl, ?_, fun i hi => ?_⟩⟩
  ·rw [hll]
   exact grownCap_ge _ _ _ _
  ·rw [Lib.bytesWorld_size]
   omega
  ·rw [hll] at hi
   rw [Nat.zero_add, Lib.bytesWorld_cell w e ⟨l.toArray⟩ i (by rw [hsz]; exact hi), (by simp [bval, List.getD, hi] : (l.map bval)[i]? = some (.int .u8 ((l.getD i 0).toNat : Int)))]
 ·have h : ∀ j, j < w.heap.size → (Lib.bytesWorld w e ⟨l.toArray⟩).heap[j]? = w.heap[j]? := fun j hj => Lib.bytesWorld_at_old w e _ j hj
  exact ⟨rfl, rfl, rfl, by rw [Lib.bytesWorld_size]; omega, fun k hk => h k hk⟩
end
end
def dBad (n : Int) : Prop := n < 0 ∨ 8160 < n
instance (n : Int) : Decidable (dBad n) := inferInstanceAs (Decidable (n < 0 ∨ 8160 < n))
def dErr (n : Int) : Int := if dBad n then 1 else 0
def dOut (k info : List UInt8) (n : Int) : List UInt8 := if dBad n then [] else hExpand k info n.toNat
theorem dErr_good {n : Nat} (h : n ≤ 8160) : dErr (n : Int) = 0 := by
 exact if_neg (by unfold dBad; omega)
theorem dOut_good (k info : List UInt8) {n : Nat} (h : n ≤ 8160) : dOut k info (n : Int) = hExpand k info n := by
 have e : dOut k info (n : Int) = hExpand k info (n : Int).toNat := if_neg (by unfold dBad; omega)
 rw [e, Int.toNat_natCast]
theorem dErr_bad {n : Int} (h : dBad n) : dErr n = 1 := if_pos h
theorem dOut_bad (k info : List UInt8) {n : Int} (h : dBad n) : dOut k info n = [] := if_pos h
theorem beW_cut {m : List UInt8} {s k : Nat} (h : k + 4 ≤ 64) : beW ((m.drop s).take 64) k = beW m (s + k) := by
 have g : ∀ j, j < 64 → ((m.drop s).take 64).getD j 0 = m.getD (s + j) 0 := fun j hj => by
  simp only [List.getD, List.getElem?_take, if_pos hj, List.getElem?_drop]
 unfold beW
 rw [g k (by omega), g (k + 1) (by omega), g (k + 2) (by omega), g (k + 3) (by omega)]
 rfl
theorem wTop_cut (m : List UInt8) (s : Nat) : ∀ k, k ≤ 16 → wTop ((m.drop s).take 64) 0 k = wTop m s k
 | 0, _ => rfl
 | k + 1, h => by
  rw [wTop, wTop, wTop_cut m s k (by omega), Nat.zero_add, beW_cut (by omega)]
theorem wSch_cut (m : List UInt8) (s : Nat) : ∀ n, wSch ((m.drop s).take 64) 0 n = wSch m s n
 | 0 => wTop_cut m s 16 (Nat.le_refl _)
 | n + 1 => by rw [wSch, wSch, wSch_cut m s n]
theorem hRun_mix (m : List UInt8) (n : Nat) : hRun m (n + 1) = mixF (hRun m n) ((m.drop (64 * n)).take 64) := by
 rw [hRun, mixF, wSch_cut]
theorem hRun_front (p q : List UInt8) : ∀ n, 64 * n ≤ p.length → hRun (p ++ q) n = hRun p n
 | 0, _ => rfl
 | n + 1, h => by
  rw [hRun_mix, hRun_mix, hRun_front p q n (by omega)]
  congr 1
  rw [List.drop_append_of_le_length (by omega), List.take_append_of_le_length (by rw [List.length_drop]; omega)]
theorem hRun_block (p x : List UInt8) (n : Nat) (hp : p.length = 64 * n) (hx : x.length = 64) (q : List UInt8) : hRun (p ++ x ++ q) (n + 1) = mixF (hRun p n) x := by
 rw [hRun_mix, List.append_assoc, hRun_front p (x ++ q) n (by omega), List.drop_append_of_le_length (by omega), ← hp, List.drop_length, List.nil_append, List.take_append_of_le_length (by omega), List.take_of_length_le (by omega)]
theorem ofNat_mod (n : Nat) : UInt8.ofNat (n % 256) = UInt8.ofNat n := by
 apply UInt8.toNat_inj.1
 rw [UInt8.toNat_ofNat', UInt8.toNat_ofNat']
 omega
def be4 (x : W32) : List UInt8 := [UInt8.ofNat (x.toNat / 16777216), UInt8.ofNat (x.toNat / 65536), UInt8.ofNat (x.toNat / 256), UInt8.ofNat x.toNat]
theorem put4_at (a b : List UInt8) (x0 x1 x2 x3 : UInt8) (x : W32) : put4 (a ++ x0 :: x1 :: x2 :: x3 :: b) a.length x = a ++ be4 x ++ b := by
 unfold put4 be4
 rw [List.set_append_right _ _ (by omega), List.set_append_right _ _ (by omega), List.set_append_right _ _ (by omega), List.set_append_right _ _ (by omega)]
 have e1 : a.length + 1 - a.length = 1 := by omega
 have e2 : a.length + 2 - a.length = 2 := by omega
 have e3 : a.length + 3 - a.length = 3 := by omega
 rw [Nat.sub_self, e1, e2, e3]
 simp
theorem be4_len (n : Nat) (h : n ≤ 1099511627776) : be4 (BitVec.ofNat 32 (n / 536870912)) ++ be4 (BitVec.ofNat 32 (8 * n)) = beB 8 (8 * n) := by
 have e1 : (BitVec.ofNat 32 (n / 536870912)).toNat = n / 536870912 := by rw [BitVec.toNat_ofNat]; omega
 have e2 : (BitVec.ofNat 32 (8 * n)).toNat = 8 * n % 4294967296 := by rw [BitVec.toNat_ofNat]
 have g : ∀ a b : Nat, a % 256 = b % 256 → UInt8.ofNat a = UInt8.ofNat b := fun a b h => by rw [← ofNat_mod a, ← ofNat_mod b, h]
 simp only [be4, beB, e1, e2, List.cons_append, List.nil_append, Nat.reducePow, List.cons.injEq, and_true]
 refine ⟨g _ _ ?_, g _ _ ?_, g _ _ ?_, g _ _ ?_, g _ _ ?_, g _ _ ?_, g _ _ ?_, g _ _ ?_⟩ <;> omega
def lastB (l : List UInt8) (f : Nat) : List UInt8 := l.take f ++ 128 :: List.replicate (63 - f) 0
theorem lastB_length {l : List UInt8} {f : Nat} (hl : f ≤ l.length) (hf : f < 64) : (lastB l f).length = 64 := by
 simp [lastB]
 omega
theorem rep8 : List.replicate 8 (0 : UInt8) = [0, 0, 0, 0, 0, 0, 0, 0] := rfl
theorem put_len (a : List UInt8) (n : Nat) (ha : a.length = 56) (h : n ≤ 1099511627776) :
  put4 (put4 (a ++ List.replicate 8 0) 56 (BitVec.ofNat 32 (n / 536870912))) 60 (BitVec.ofNat 32 (8 * n)) = a ++ beB 8 (8 * n) := by
 have e1 := put4_at a [0, 0, 0, 0] 0 0 0 0 (BitVec.ofNat 32 (n / 536870912))
 rw [ha] at e1
 rw [rep8, e1]
 have e2 := put4_at (a ++ be4 (BitVec.ofNat 32 (n / 536870912))) [] 0 0 0 0 (BitVec.ofNat 32 (8 * n))
 have e3 : (a ++ be4 (BitVec.ofNat 32 (n / 536870912))).length = 60 := by simp [be4, ha]
 rw [e3] at e2
 rw [e2, List.append_nil, List.append_assoc, be4_len n h]
theorem close_one (p l : List UInt8) (n f : Nat) (hp : p.length = 64 * n + f) (hf : f < 56) (hl : l.length = 64) (hlf : l.take f = p.drop (64 * n)) (hb : p.length ≤ 1099511627776) :
  hRun (padded p) ((p.length + 72) / 64) = mixF (hRun p n) (put4 (put4 (lastB l f) 56 (BitVec.ofNat 32 (p.length / 536870912))) 60 (BitVec.ofNat 32 (8 * p.length))) := by
 have e1 : lastB l f = (l.take f ++ 128 :: List.replicate (55 - f) 0) ++ List.replicate 8 0 := by
  unfold lastB
  rw [show 63 - f = (55 - f) + 8 from by omega, ← List.replicate_append_replicate]
  simp
 rw [e1, put_len _ _ (by simp; omega) hb, hlf]
 have e2 : (p.length + 72) / 64 = n + 1 := by omega
 have e3 : padN p.length = 55 - f := by unfold padN; omega
 have e4 : padded p = p.take (64 * n) ++ (p.drop (64 * n) ++ 128 :: List.replicate (55 - f) 0 ++ beB 8 (8 * p.length)) ++ [] := by
  unfold padded
  rw [e3]
  simp only [List.append_assoc, List.append_nil, List.cons_append, List.nil_append]
  rw [← List.append_assoc, List.take_append_drop]
 have e5 : hRun p n = hRun (p.take (64 * n)) n := by
  have h := hRun_front (p.take (64 * n)) (p.drop (64 * n)) n (by simp; omega)
  rwa [List.take_append_drop] at h
 rw [e2, e4, e5, hRun_block _ _ n (by simp; omega) (by simp [beB_length]; omega)]
theorem close_two (p l : List UInt8) (n f : Nat) (hp : p.length = 64 * n + f) (hf : 56 ≤ f) (hf2 : f < 64) (hl : l.length = 64) (hlf : l.take f = p.drop (64 * n)) (hb : p.length ≤ 1099511627776) :
  hRun (padded p) ((p.length + 72) / 64) = mixF (mixF (hRun p n) (lastB l f)) (put4 (put4 (List.replicate 64 0) 56 (BitVec.ofNat 32 (p.length / 536870912))) 60 (BitVec.ofNat 32 (8 * p.length))) := by
 have e1 : List.replicate 64 (0 : UInt8) = List.replicate 56 0 ++ List.replicate 8 0 := rfl
 rw [e1, put_len _ _ (by simp) hb]
 have e2 : (p.length + 72) / 64 = n + 1 + 1 := by omega
 have e3 : padN p.length = (63 - f) + 56 := by unfold padN; omega
 have e4 : padded p = (p.take (64 * n) ++ lastB l f) ++ (List.replicate 56 0 ++ beB 8 (8 * p.length)) ++ [] := by
  unfold padded lastB
  rw [e3, hlf, ← List.replicate_append_replicate]
  simp only [List.append_assoc, List.append_nil, List.cons_append, List.nil_append]
  exact (congrArg (· ++ 128 :: (List.replicate (63 - f) 0 ++ (List.replicate 56 0 ++ beB 8 (8 * p.length)))) (List.take_append_drop (64 * n) p)).symm.trans (List.append_assoc _ _ _)
 have e5 : hRun p n = hRun (p.take (64 * n)) n := by
  have h := hRun_front (p.take (64 * n)) (p.drop (64 * n)) n (by simp; omega)
  rwa [List.take_append_drop] at h
 have hlb := lastB_length (l := l) (f := f) (by omega) hf2
 have e6 := hRun_block (p.take (64 * n)) (lastB l f) n (by simp; omega) hlb []
 rw [List.append_nil] at e6
 rw [e2, e4, e5, hRun_block _ _ (n + 1) (by rw [List.length_append, hlb]; simp; omega) (by simp [beB_length]), e6]
def outK (h : List W32) : Nat → List UInt8
 | 0 => List.replicate 32 0
 | k + 1 => put4 (outK h k) (4 * k) (h.getD k 0#32)
theorem outK_length (h : List W32) : ∀ k, (outK h k).length = 32
 | 0 => by simp [outK]
 | k + 1 => by rw [outK, zci, outK_length h k]
theorem outK_full : ∀ (h : List W32), h.length = 8 → outK h 8 = outB h
 | [a, b, c, d, e, f, g, i], _ => by
  simp only [outK, put4, outB, List.range, List.range.loop, List.map_cons, List.map_nil, ofNat_mod, List.replicate, List.getD_cons_zero, List.getD_cons_succ, List.set_cons_zero, List.set_cons_succ, Nat.reduceMul, Nat.reduceAdd, Nat.reduceDiv, Nat.reduceMod, Nat.reduceSub, Nat.reducePow, Nat.div_one]
section
section
variable {P : Program} {w : World}
theorem zeroCells_one (x : Value) (n : Nat) : (Builtin.zeroCells #[x] n).toList = List.replicate n x := by
 unfold Builtin.zeroCells
 rw [Array.toList_map]
 apply List.ext_getElem
 ·simp
 ·intro i h1 h2
  simp [Nat.mod_one]
theorem run_clear_bytes {t e ty : TypeId} (ht : P.underlying t = some (.slice e)) (hz : ∀ w, (zeroValue e).run P w = .ok (.int .u8 0) w) (c o n cap : Nat) (cs : List Value) (tb : TypeId) (hb : Blk w c cs tb) (hn : o + n ≤ cs.length) :
  (Builtin.clear_ #[t] ty #[.slice (some ⟨c, o, none⟩) n cap]).run P w = .ok (.tuple #[]) (w.setCells c o (List.replicate n (.int .u8 0))) := by
 cases n with
 | zero => simp [Builtin.clear_, run_underlying ht, World.setCells]
 | succ n =>
  have hst := run_storeCells_cells (P := P) c o (List.replicate (n + 1) (.int .u8 0)) 0 w (fun j hj => by
   rw [hb.cell, List.getElem?_eq_getElem (by rw [List.length_replicate] at hj; omega)]
   rfl) (fun j _ => hb.free _) (fun v hv => by rw [List.eq_of_mem_replicate hv]; rfl)
  rw [Nat.add_zero] at hst
  simp [Builtin.clear_, run_underlying ht, hz, Value.cells, zeroCells_one, hst]
end
theorem laid_append : ∀ (vs a b : List Value), vs.length = b.length → laid (a ++ b) a.length vs = a ++ vs
 | [], a, [], _ => rfl
 | v :: r, a, x :: b, h => by
  rw [laid, List.set_append_right _ _ (Nat.le_refl _), Nat.sub_self, List.set_cons_zero]
  have ih := laid_append r (a ++ [v]) b (by simpa using h)
  simpa using ih
end
theorem start_any (w : World) : Calls Tryz.prog 108 #[] w fun e w' => e = .returned (.agg (ints .u32 (ws H256)).toArray) ∧ Below w.heap.size w w' := by
 have HZ := jh (Blk.made w (ints .u32 (List.replicate 8 0)) 141)
 have HE := jh (Ext.alloc w (.cells (ints .u32 (List.replicate 8 0)).toArray 141))
 go_enter Tryz.func108, Tryz.ntmps108
 go_wp2_with (refine zac rfl _ _ _ rfl w.heap.size (ints .u32 (ws H256)) rfl rfl _ _ HZ.out rfl Tryz.arr141 (zai _ _) ?_; intro w1 hb1 hg1)
 refine bodyPost_ret (zap rfl _ w.heap.size _ _ _ _ rfl hb1 Tryz.underlying141 Tryz.arr141) rfl ?_
 exact ⟨rfl, zae HE.out hg1 (Nat.le_refl _)⟩
theorem build_block (w : World) : (Instr.build 143 #[]).run Tryz.prog w = .ok (.agg ((List.replicate 64 (0 : UInt8)).map bval).toArray) w := by
 simp [Instr.build, Tryz.zeroValue143]
 rfl
theorem index_words {T e : TypeId} {n : Nat} (hT : Tryz.prog.underlying T = some (.array n e)) (hs : ∀ w, (sizeOf e).run Tryz.prog w = .ok 1 w) (ha : ∀ w, (isAgg e).run Tryz.prog w = .ok false w) (h : List W32) (hl : h.length = n) (k : Nat) (hk : k < n) (w : World) :
  (Instr.index T (.agg (ints .u32 (ws h)).toArray) (.int .i64 (k : Int))).run Tryz.prog w = .ok (.int .u32 (wi (h.getD k 0#32))) w := by
 have hg : (ints .u32 (ws h))[k]? = some (.int .u32 (wi (h.getD k 0#32))) := by rw [zav (by rw [zar, hl]; exact hk), zdk]
 have hi : 0 ≤ (k : Int) ∧ (k : Int) < (n : Int) := by omega
 unfold Instr.index
 simp only [asIntOf, Sem.run_bind, Sem.run_pure, Result.andThen_ok, run_underlying hT, hi, hs, part, ha]
 rw [if_pos ⟨trivial, trivial⟩]
 simp only [Sem.run_bind, hs, ha, Result.andThen_ok, Int.toNat_natCast, Nat.mul_one, List.getElem?_toArray, hg, Bool.false_eq_true, if_false, Sem.run_pure]
theorem sha_numOf_any (h : List W32) (hh : h.length = 8) (w : World) : Calls Tryz.prog 110 #[.agg (ints .u32 (ws h)).toArray] w fun e w' => e = .returned (.agg ((outB h).map bval).toArray) ∧ Below w.heap.size w w' := by
 have HH := jh hh
 have HB := jh (boxes3u w (ints .u32 (ws h)) (ints .u8 (List.replicate 32 0)) (ints .u8 (List.replicate 32 0)) 141 23 23)
 have HIr : Hid ((Tryz.prog.info? 141).map (·.size) = some (ints .u32 (ws h)).length) := jh (by rw [zad, zar, hh]; exact Tryz.arr141)
 clear hh
 go_enter Tryz.func110, Tryz.ntmps110
 go_upto_region 2 with (fail)
 obtain ⟨H1, H2, H3, HE⟩ := HB.out
 change Code.wp _ _ _ _ (((w.alloc (.cells (ints .u32 (ws h)).toArray 141)).alloc (.cells (ints .u8 (List.replicate 32 0)).toArray 23)).alloc (.cells (ints .u8 (List.replicate 32 0)).toArray 23))
 generalize (((w.alloc (.cells (ints .u32 (ws h)).toArray 141)).alloc (.cells (ints .u8 (List.replicate 32 0)).toArray 23)).alloc (.cells (ints .u8 (List.replicate 32 0)).toArray 23)) = w3 at *
 obtain ⟨A, hA⟩ : ∃ A, A = w.heap.size := ⟨_, rfl⟩
 rw [← hA] at H1 H2 H3 ⊢
 have hA2 : w.heap.size ≤ A := by omega
 have H1 := jh H1
 have H2 := jh H2
 have H3 := jh H3
 have HE : Hid (Ext w w3) := jh HE
 clear hA HB
 go_wp2_with (refine zab rfl _ _ rfl A rfl _ _ _ _ H1.out Tryz.underlying141 HIr.out ?_)
 go_loopw [7] (fun iv wr => ∃ (k : Nat), k ≤ 8 ∧ iv = .int .i64 (k : Int) ∧ Blk wr (A + 1) (ints .u8 (List.replicate 32 0)) 23 ∧ Blk wr (A + 1 + 1) ((outK h k).map bval) 23 ∧ Ext w wr) (fun iv _ => 8 - (intOf iv).toNat)
 case atStart => exact ⟨0, by omega, rfl, H2.out, H3.out, HE.out⟩
 case round =>
  clear H1 H2 H3 HE
  obtain ⟨k, hk, rfl, hb2, hb3, hbel⟩ := hrel
  have k0 : (0 : Int) ≤ (k : Int) := Int.natCast_nonneg _
  by_cases hlk : k < 8
  ·have k1 : (k : Int) < 8 := by omega
   have hi := index_words Tryz.underlying141 Tryz.sizeOf96 Tryz.isAgg96 h HH.out k hlk
   have hs := cut_arr Tryz.underlying23 zek Tryz.sizeOf5 wr (A + 1 + 1) (4 * k) (by omega)
   have e4 : ((4 * k : Nat) : Int) = 4 * (k : Int) := by omega
   rw [e4] at hs
   have HP := jh (put_any (A + 1 + 1) (4 * k) (32 - 4 * k) (32 - 4 * k) (outK h k) (h.getD k 0#32) _ wr hb3 (by rw [outK_length]; omega) (by omega))
   have HK : Hid (outK h (k + 1) = put4 (outK h k) (4 * k) (h.getD k 0#32)) := jh rfl
   have H2 := jh hb2
   have HE := jh hbel
   clear hb2 hb3 hbel e4
   generalize h.getD k 0#32 = y at *
   go_wp2_with fail
   refine HP.out.mono ?_
   rintro e w4 ⟨rfl, hb, hg⟩
   have H2 := jh (H2.out.grown hg (by simp))
   have HE := jh (zae HE.out hg (by omega))
   have H3 := jh hb
   clear hb hg HP hs hi
   go_wp2_with fail
   go_roundw
   case rel => exact ⟨k + 1, by omega, by go_num, H2.out, by rw [HK.out]; exact H3.out, HE.out⟩
   case measure => simp [intOf]; omega
  ·have hk8 : k = 8 := by omega
   subst hk8
   rw [outK_full h HH.out] at hb3
   have H2 := jh hb2
   have H3 := jh hb3
   have HE := jh hbel
   clear hb2 hb3 hbel
   have HIo : Hid ((Tryz.prog.info? 23).map (·.size) = some ((outB h).map bval).length) := jh (zaf (outB_length h))
   have HLo : Hid (((outB h).map bval).length = (ints .u8 (List.replicate 32 0)).length) := jh (by rw [List.length_map, outB_length, zad, List.length_replicate])
   go_wp2_with (first | (refine zab rfl _ _ rfl (A + 1 + 1) rfl _ _ _ _ H3.out Tryz.underlying23 HIo.out ?_) | (refine zac rfl _ _ _ rfl (A + 1) ((outB h).map bval) rfl rfl _ _ H2.out HLo.out HIo.out (zag _) ?_; intro w4 hb4 hg4))
   refine bodyPost_ret (zap rfl _ (A + 1) _ _ _ _ rfl hb4 Tryz.underlying23 HIo.out) rfl ?_
   exact ⟨rfl, zae HE.out hg4 (by omega)⟩
theorem cut_arr2 {t : TypeId} {n : Nat} {e : TypeId} (ht : Tryz.prog.underlying t = some (.array n e)) (h : ∀ w, (sizeOf e).run Tryz.prog w = .ok 1 w) (w : World) (A p : Nat) (hp : p ≤ n) :
  ∃ o, o + (n - p) ≤ n ∧ (p < n → o = p) ∧ (Instr.sliceAt t (.pointer (some ⟨A, 0, none⟩)) (some (.int .i64 (p : Int))) none none).run Tryz.prog w = .ok (.slice (some ⟨A, o, none⟩) (n - p) (n - p)) w := by
 have e1 : Tryz.prog.arrayLen t = n := by unfold Program.arrayLen; rw [ht]
 have e2 : Tryz.prog.elem t = e := by unfold Program.elem; rw [ht]
 have hr := run_sliceAt_array_l w t ⟨A, 0, none⟩ (by rw [e1, e2]; exact ht) .i64 (p : Int) (by omega) (by rw [e1]; omega)
 rw [e2, h, e1] at hr
 by_cases hpn : n = p
 ·refine ⟨0, by omega, by omega, ?_⟩
  rw [hr]
  simp [slicedAt, hpn]
 ·refine ⟨p, by omega, fun _ => rfl, ?_⟩
  rw [hr]
  simp [slicedAt, Addr.add, hpn]
  exact fun h => h.symm
theorem laid_last (l : List UInt8) (f o : Nat) (hl : l.length = 64) (hf : f < 64) (ho : f + 1 < 64 → o = f + 1) :
  laid ((l.map bval).set f (.int .u8 128)) o (List.replicate (63 - f) (.int .u8 0)) = (lastB l f).map bval := by
 rw [show 63 - f = 64 - (f + 1) from by omega]
 have e0 : (Value.int .u8 128) = bval 128 := rfl
 have e1 : l.set f 128 = l.take f ++ [128] ++ l.drop (f + 1) := by
  rw [List.set_eq_take_append_cons_drop, if_pos (by omega)]
  simp
 have e2 : (List.replicate (64 - (f + 1)) (Value.int .u8 0)) = (List.replicate (64 - (f + 1)) (0 : UInt8)).map bval := by rw [List.map_replicate]; rfl
 rw [e0, ← List.map_set, e1, e2]
 by_cases h : f + 1 < 64
 ·rw [ho h, List.map_append]
  have h3 : f + 1 = ((l.take f ++ [128]).map bval).length := by simp; omega
  have h4 := laid_append ((List.replicate (64 - (f + 1)) (0 : UInt8)).map bval) ((l.take f ++ [128]).map bval) ((l.drop (f + 1)).map bval) (by simp; omega)
  rw [← h3] at h4
  rw [h4, ← List.map_append]
  unfold lastB
  rw [show 64 - (f + 1) = 63 - f from by omega]
  simp
 ·have h3 : f = 63 := by omega
  subst h3
  unfold lastB
  simp [laid, hl]
/-- The hash of p, of which n blocks are told by h and f bytes lie in l. -/
theorem closed_any (p l : List UInt8) (n f : Nat) (w : World) (hp : p.length = 64 * n + f) (hf : f < 64) (hl : l.length = 64) (hlf : l.take f = p.drop (64 * n)) (hb : p.length ≤ 1099511627776) (hG : GlobR w) :
  Calls Tryz.prog 111 #[.agg (ints .u32 (ws (hRun p n))).toArray, .agg (l.map bval).toArray, .int .i64 (f : Int), .int .i64 (p.length : Int)] w fun e w' =>
   e = .returned (.agg (ints .u32 (ws (hRun (padded p) ((p.length + 72) / 64)))).toArray) ∧ Below w.heap.size w w' := by
 have HG := jh hG
 have HB := jh (boxes3u w (ints .u32 (ws (hRun p n))) (l.map bval) (ints .u32 (List.replicate 8 0)) 141 143 141)
 have HL := jh hl
 have HR := jh (zcu p n)
 have hb0 : (p.length : Int) ≤ 1099511627776 := by omega
 have hf0 : (f : Int) < 64 := by omega
 have HC1 : Hid (f < 56 → _) := jh (fun h56 => close_one p l n f hp h56 hl hlf hb)
 have HC2 : Hid (56 ≤ f → _) := jh (fun h56 => close_two p l n f hp h56 hf hl hlf hb)
 generalize hRun (padded p) ((p.length + 72) / 64) = R at *
 generalize hRun p n = h at *
 have HLB := jh (lastB_length (l := l) (f := f) (by omega) hf)
 clear hG hlf hp
 go_enter Tryz.func111, Tryz.ntmps111
 go_upto_region 1 with (fail)
 obtain ⟨H1, H2, H3, HE⟩ := HB.out
 change Code.wp _ _ _ _ (((w.alloc (.cells (ints .u32 (ws h)).toArray 141)).alloc (.cells (l.map bval).toArray 143)).alloc (.cells (ints .u32 (List.replicate 8 0)).toArray 141))
 generalize (((w.alloc (.cells (ints .u32 (ws h)).toArray 141)).alloc (.cells (l.map bval).toArray 143)).alloc (.cells (ints .u32 (List.replicate 8 0)).toArray 141)) = w3 at *
 obtain ⟨A, hA⟩ : ∃ A, A = w.heap.size := ⟨_, rfl⟩
 rw [← hA] at H1 H2 H3 ⊢
 have hA2 : w.heap.size ≤ A := by omega
 have c0 : w3.cell? ⟨A + 1, f, none⟩ = some (.int .u8 ((l.getD f 0).toNat : Int)) := by rw [H2.cell, zbb (by omega)]
 have f0 := H2.free f
 have H1 := jh H1
 have H2 := jh H2
 have H3 := jh H3
 have HE : Hid (Ext w w3) := jh HE
 clear hA HB hl
 generalize ((l.getD f 0).toNat : Int) = z0 at *
 obtain ⟨o, ho1, ho2, hs⟩ := cut_arr2 Tryz.underlying143 Tryz.sizeOf5 (w3.setCell ⟨A + 1, f, none⟩ (.int .u8 128)) (A + 1) (f + 1) (by omega)
 have ef : ((f + 1 : Nat) : Int) = (f : Int) + 1 := by omega
 rw [ef] at hs
 have HB3 := jh (H2.out.set f (.int .u8 128))
 have hcl := run_clear_bytes (ty := 0) Tryz.underlying25 Tryz.zeroValue5 (A + 1) o (63 - f) (63 - f) _ _ HB3.out (by have := HL.out; simp; omega)
 have HLL := jh (laid_last l f o HL.out hf ho2)
 clear ho1 ho2 ef
 go_upto_region 3 with (fail)
 have H2 := Blk.setCells (List.replicate (63 - f) (.int .u8 0)) _ o _ HB3.out
 rw [HLL.out] at H2
 have hg : w3.grownBy ((w3.setCell ⟨A + 1, f, none⟩ (.int .u8 128)).setCells (A + 1) o (List.replicate (63 - f) (.int .u8 0))) (some (A + 1)) := zcl _ _ _ _ (zbh (zdc w3 _) _ _)
 have H1 := jh (H1.out.grown hg (by simp))
 have H3 := jh (H3.out.grown hg (by simp))
 have HE := jh (zae HE.out hg (by omega))
 have H2 := jh H2
 generalize (w3.setCell ⟨A + 1, f, none⟩ (.int .u8 128)).setCells (A + 1) o (List.replicate (63 - f) (.int .u8 0)) = w4 at *
 clear hg HB3 HLL hcl hs c0 f0
 generalize hLB : lastB l f = lb at *
 have HI1 : Hid ((Tryz.prog.info? 141).map (·.size) = some (ints .u32 (ws h)).length) := jh (by rw [zad, zar, HR.out]; exact Tryz.arr141)
 have HI2 : Hid ((Tryz.prog.info? 143).map (·.size) = some (lb.map bval).length) := jh (by rw [List.length_map, HLB.out]; exact Tryz.arr143)
 have q1 : (wi (BitVec.ofNat 32 (p.length / 536870912))) = (p.length : Int) / 536870912 := by
  unfold wi
  rw [BitVec.toNat_ofNat]
  omega
 have q2 : (wi (BitVec.ofNat 32 (8 * p.length))) = (p.length : Int) * 8 % 4294967296 := by
  unfold wi
  rw [BitVec.toNat_ofNat]
  omega
 have HQ1 := jh q1
 have HQ2 := jh q2
 have hp0 : (0 : Int) ≤ (p.length : Int) := Int.natCast_nonneg _
 generalize (BitVec.ofNat 32 (p.length / 536870912)) = x1 at *
 generalize (BitVec.ofNat 32 (8 * p.length)) = x2 at *
 generalize (p.length : Int) = N at *
 clear q1 q2 hb
 have s56 : ∀ w, (Instr.sliceAt 143 (.pointer (some ⟨A + 1, 0, none⟩)) (some (.int .i64 56)) none none).run Tryz.prog w = .ok (.slice (some ⟨A + 1, 56, none⟩) 8 8) w := fun w => cut_arr Tryz.underlying143 zek Tryz.sizeOf5 w (A + 1) 56 (by omega)
 have s60 : ∀ w, (Instr.sliceAt 143 (.pointer (some ⟨A + 1, 0, none⟩)) (some (.int .i64 60)) none none).run Tryz.prog w = .ok (.slice (some ⟨A + 1, 60, none⟩) 4 4) w := fun w => cut_arr Tryz.underlying143 zek Tryz.sizeOf5 w (A + 1) 60 (by omega)
 by_cases h56 : f < 56
 ·have h57 : (f : Int) < 56 := by omega
  have HP1 := put_any (A + 1) 56 8 8 lb x1 _ w4 H2.out (by rw [HLB.out]; omega) (by omega)
  rw [HQ1.out] at HP1
  have HP1 := jh HP1
  go_wp2_with fail
  refine HP1.out.mono ?_
  rintro e w5 ⟨rfl, hb, hg⟩
  have H1 := jh (H1.out.grown hg (by simp))
  have H3 := jh (H3.out.grown hg (by simp))
  have HE := jh (zae HE.out hg (by omega))
  have H2 := jh hb
  clear hb hg HP1
  have HP2 := put_any (A + 1) 60 4 4 (put4 lb 56 x1) x2 _ w5 H2.out (by rw [zci, HLB.out]; omega) (by omega)
  rw [HQ2.out] at HP2
  have HP2 := jh HP2
  go_wp2_with fail
  refine HP2.out.mono ?_
  rintro e w6 ⟨rfl, hb, hg⟩
  have H1 := jh (H1.out.grown hg (by simp))
  have H3 := jh (H3.out.grown hg (by simp))
  have HE := jh (zae HE.out hg (by omega))
  have H2 := jh hb
  clear hb hg HP2
  have HI3 : Hid ((Tryz.prog.info? 143).map (·.size) = some ((put4 (put4 lb 56 x1) 60 x2).map bval).length) := jh (by rw [List.length_map, zci, zci, HLB.out]; exact Tryz.arr143)
  have HI4 : Hid ((Tryz.prog.info? 141).map (·.size) = some (ints .u32 (ws (mixF h (put4 (put4 lb 56 x1) 60 x2)))).length) := jh (by rw [zad, zar, mixF_length, HR.out]; exact Tryz.arr141)
  have HI5 : Hid ((ints .u32 (ws (mixF h (put4 (put4 lb 56 x1) 60 x2)))).length = (ints .u32 (List.replicate 8 0)).length) := jh (by rw [zad, zar, mixF_length, HR.out, zad, List.length_replicate])
  have HM := jh (mixed_any h (put4 (put4 lb 56 x1) 60 x2) w6 HR.out (by rw [zci, zci, HLB.out]) (HG.out.ext HE.out))
  go_wp2_with (first | (refine zab rfl _ _ rfl A rfl _ _ _ _ H1.out Tryz.underlying141 HI1.out ?_) | (refine zab rfl _ _ rfl (A + 1) rfl _ _ _ _ H2.out Tryz.underlying143 HI3.out ?_))
  refine HM.out.mono ?_
  rintro e w7 ⟨rfl, hb⟩
  have H3 := jh (zaa H3.out hb)
  have HE := jh (HE.out.trans hb)
  clear hb
  go_wp2_with (refine zac rfl _ _ _ rfl (A + 1 + 1) (ints .u32 (ws (mixF h (put4 (put4 lb 56 x1) 60 x2)))) rfl rfl _ _ H3.out HI5.out HI4.out (zai _ _) ?_; intro w8 hb8 hg8)
  refine bodyPost_ret (zap rfl _ (A + 1 + 1) _ _ _ _ rfl hb8 Tryz.underlying141 HI4.out) rfl ?_
  exact ⟨by rw [HC1.out h56], zae HE.out hg8 (by omega)⟩
 ·have h57 : 56 ≤ (f : Int) := by omega
  have HMA := jh (mixed_any h lb w4 HR.out HLB.out (HG.out.ext HE.out))
  go_wp2_with (first | (refine zab rfl _ _ rfl A rfl _ _ _ _ H1.out Tryz.underlying141 HI1.out ?_) | (refine zab rfl _ _ rfl (A + 1) rfl _ _ _ _ H2.out Tryz.underlying143 HI2.out ?_))
  refine HMA.out.mono ?_
  rintro e w9 ⟨rfl, hb⟩
  have H1 := jh (zaa H1.out hb)
  have H2 := jh (zaa H2.out hb)
  have H3 := jh (zaa H3.out hb)
  have HE := jh (HE.out.trans hb)
  clear hb HMA HI1
  have HRM : Hid ((mixF h lb).length = 8) := jh (by rw [mixF_length, HR.out])
  have HC3 : Hid (R = _) := jh (HC2.out (by omega))
  generalize mixF h lb = h1 at *
  have HI1 : Hid ((Tryz.prog.info? 141).map (·.size) = some (ints .u32 (ws h1)).length) := jh (by rw [zad, zar, HRM.out]; exact Tryz.arr141)
  have HI6 : Hid ((ints .u32 (ws h1)).length = (ints .u32 (ws h)).length) := jh (by rw [zad, zar, HRM.out, zad, zar, HR.out])
  have HI7 : Hid ((Tryz.prog.info? 143).map (·.size) = some ((List.replicate 64 (0 : UInt8)).map bval).length) := jh Tryz.arr143
  have HI8 : Hid (((List.replicate 64 (0 : UInt8)).map bval).length = (lb.map bval).length) := jh (by rw [List.length_map, List.length_map, HLB.out, List.length_replicate])
  have hbz := build_block
  go_upto_region 6 with (first | (refine zac rfl _ _ _ rfl A (ints .u32 (ws h1)) rfl rfl _ _ H1.out HI6.out HI1.out (zai _ _) ?_; intro w10 hb10 hg10; have K1 := jh hb10; have K2 := jh (H2.out.grown hg10 (by simp)); have K3 := jh (H3.out.grown hg10 (by simp <;> omega)); have KE := jh (zae HE.out hg10 (by omega)); clear hb10 hg10) | (refine zac rfl _ _ _ rfl (A + 1) ((List.replicate 64 (0 : UInt8)).map bval) rfl rfl _ _ K2.out HI8.out HI7.out (zag _) ?_; intro w11 hb11 hg11))
  have H1 := jh (K1.out.grown hg11 (by simp))
  have H3 := jh (K3.out.grown hg11 (by simp))
  have HE := jh (zae KE.out hg11 (by omega))
  have H2 := jh hb11
  have HLZ : Hid ((List.replicate 64 (0 : UInt8)).length = 64) := jh (List.length_replicate)
  generalize List.replicate 64 (0 : UInt8) = lz at *
  clear hb11 hg11 K1 K2 K3 KE HI6 HI7 HI8 HI2
  have HP1 := put_any (A + 1) 56 8 8 lz x1 _ w11 H2.out (by rw [HLZ.out]; omega) (by omega)
  rw [HQ1.out] at HP1
  have HP1 := jh HP1
  go_wp2_with fail
  refine HP1.out.mono ?_
  rintro e w5 ⟨rfl, hb, hg⟩
  have H1 := jh (H1.out.grown hg (by simp))
  have H3 := jh (H3.out.grown hg (by simp))
  have HE := jh (zae HE.out hg (by omega))
  have H2 := jh hb
  clear hb hg HP1
  have HP2 := put_any (A + 1) 60 4 4 (put4 lz 56 x1) x2 _ w5 H2.out (by rw [zci, HLZ.out]; omega) (by omega)
  rw [HQ2.out] at HP2
  have HP2 := jh HP2
  go_wp2_with fail
  refine HP2.out.mono ?_
  rintro e w6 ⟨rfl, hb, hg⟩
  have H1 := jh (H1.out.grown hg (by simp))
  have H3 := jh (H3.out.grown hg (by simp))
  have HE := jh (zae HE.out hg (by omega))
  have H2 := jh hb
  clear hb hg HP2
  have HI3 : Hid ((Tryz.prog.info? 143).map (·.size) = some ((put4 (put4 lz 56 x1) 60 x2).map bval).length) := jh (by rw [List.length_map, zci, zci, HLZ.out]; exact Tryz.arr143)
  have HI4 : Hid ((Tryz.prog.info? 141).map (·.size) = some (ints .u32 (ws (mixF h1 (put4 (put4 lz 56 x1) 60 x2)))).length) := jh (by rw [zad, zar, mixF_length, HRM.out]; exact Tryz.arr141)
  have HI5 : Hid ((ints .u32 (ws (mixF h1 (put4 (put4 lz 56 x1) 60 x2)))).length = (ints .u32 (List.replicate 8 0)).length) := jh (by rw [zad, zar, mixF_length, HRM.out, zad, List.length_replicate])
  have HM := jh (mixed_any h1 (put4 (put4 lz 56 x1) 60 x2) w6 HRM.out (by rw [zci, zci, HLZ.out]) (HG.out.ext HE.out))
  go_wp2_with (first | (refine zab rfl _ _ rfl A rfl _ _ _ _ H1.out Tryz.underlying141 HI1.out ?_) | (refine zab rfl _ _ rfl (A + 1) rfl _ _ _ _ H2.out Tryz.underlying143 HI3.out ?_))
  refine HM.out.mono ?_
  rintro e w7 ⟨rfl, hb⟩
  have H3 := jh (zaa H3.out hb)
  have HE := jh (HE.out.trans hb)
  clear hb
  go_wp2_with (refine zac rfl _ _ _ rfl (A + 1 + 1) (ints .u32 (ws (mixF h1 (put4 (put4 lz 56 x1) 60 x2)))) rfl rfl _ _ H3.out HI5.out HI4.out (zai _ _) ?_; intro w8 hb8 hg8)
  refine bodyPost_ret (zap rfl _ (A + 1 + 1) _ _ _ _ rfl hb8 Tryz.underlying141 HI4.out) rfl ?_
  exact ⟨by rw [HC3.out], zae HE.out hg8 (by omega)⟩
theorem splice_map (l c : List UInt8) (f : Nat) : splice (l.map bval) f (c.map bval) = (l.take f ++ c ++ l.drop (f + c.length)).map bval := by
 unfold splice
 simp
theorem num_one : (Tryz.prog.info? 5).map (·.size) = some 1 := by kernel_rfl
def lenV : Value → Nat
 | .slice _ n _ => n
 | _ => 0
theorem front_take (xr : List UInt8) (n : Nat) : ∃ c : List UInt8, c.length = Nat.min xr.length n ∧ xr = c ++ xr.drop c.length ∧ c = xr.take n := by
 refine ⟨xr.take n, by rw [List.length_take, Nat.min_comm], ?_, rfl⟩
 rcases Nat.le_total n xr.length with h | h
 ·rw [List.length_take, Nat.min_eq_left h, List.take_append_drop]
 ·rw [List.take_of_length_le h, List.drop_length, List.append_nil]
def But (M Bo : Nat) (w w' : World) : Prop := ∀ k, k < Bo → k ≠ M → w'.heap[k]? = w.heap[k]?
theorem But.trans {M Bo : Nat} {a b c : World} (h : But M Bo a b) (g : But M Bo b c) : But M Bo a c := fun k hk hM => (g k hk hM).trans (h k hk hM)
theorem But.set {M Bo : Nat} {a b : World} (h : But M Bo a b) {p : Addr} (hp : p.block = M) (v : Value) : But M Bo a (b.setCell p v) := fun k hk hM => (heap_setCell_other b p k v (by rw [hp]; exact hM)).trans (h k hk hM)
theorem But.drew {M Bo : Nat} {a b : World} (h : But M Bo a b) : But M Bo a b.drew := h
theorem But.of_below {M Bo : Nat} {a b : World} (h : Below Bo a b) : But M Bo a b := fun k hk _ => h.block k hk
theorem move_cap (w0 w : World) (M Bo f K C : Nat) (ov bv : Value) (o l : List UInt8) (T : TypeId) (hM : Blk w M [ov, bv] 108) (ho : Row1 w0 ov (o.map bval)) (hl : Blk w Bo (l.map bval) T) (hlen : l.length = C) (hf : f < K) (hKC : K ≤ C) (hK : C ≤ 128)
  (he : Ext w0 w) (h0 : w0.heap.size ≤ M) (hMB : M < Bo) :
  Calls Tryz.prog 120 #[.pointer (some ⟨M, 0, none⟩), .slice (some ⟨Bo, f, none⟩) (K - f) (C - f)] w fun e w' =>
   ∃ ov' c, c = o.take (K - f) ∧ e = .returned (.int .i64 (c.length : Int)) ∧ Blk w' M [ov', bv] 108 ∧ Row1 w0 ov' ((o.drop c.length).map bval) ∧ Blk w' Bo ((l.take f ++ c ++ l.drop (f + c.length)).map bval) T ∧ Below M w w' ∧ But M Bo w w' := by
 obtain ⟨c, hcl, hcx, hct⟩ := front_take o (K - f)
 have hcm : c.length ≤ o.length := by rw [hcl]; exact Nat.min_le_left _ _
 have hcm2 : c.length ≤ K - f := by rw [hcl]; exact Nat.min_le_right _ _
 obtain ⟨v', hv', hrun⟩ := row_cut Tryz.underlying25 Tryz.sizeOf5 ho c.length (by rw [List.length_map]; exact hcm)
 rw [← List.map_drop] at hv'
 obtain ⟨a3, cap3, rfl, t1, t2, t3, t4⟩ := ho
 rw [List.length_map] at t1 hrun hM
 unfold maxLen at t2
 have HCS : Hid (0 < (c.map bval).length → some (⟨Bo, f, none⟩ : Addr) = some ⟨Bo, f, none⟩ ∧ ∃ ad, a3 = some ad ∧ ∀ (j : Nat) (v : Value), (c.map bval)[j]? = some v → w.cell? (ad.add j) = some v) := jh (fun h => by
  rw [List.length_map] at h
  obtain ⟨b3, off3, rfl, t5, t6⟩ := t4 (by intro e; have h := congrArg List.length e; rw [List.length_map] at h; simp only [List.length_nil] at h; omega)
  refine ⟨rfl, _, rfl, fun j v hj => ?_⟩
  have hjl : j < c.length := by
   rcases Nat.lt_or_ge j c.length with h | h
   ·exact h
   ·rw [List.getElem?_eq_none (by rw [List.length_map]; exact h)] at hj; cases hj
  have e := t6 j (by rw [List.length_map]; omega)
  have e2 : (o.map bval)[j]? = (c.map bval)[j]? := by rw [hcx, List.map_append, List.getElem?_append_left (by rw [List.length_map]; exact hjl)]
  rw [WideShapes.add_plain, ← hj, ← e2, ← e]
  exact he.cell (p := ⟨b3, off3 + j, none⟩) t5)
 have HBO := jh (hl : w.heap[Bo]? = some (.cells (l.map bval).toArray T (0, 0)))
 have HCL : Hid ((c.map bval).length = Nat.min o.length (K - f)) := jh (by rw [List.length_map, hcl])
 have HFT2 : Hid (f + (c.map bval).length ≤ (l.map bval).length) := jh (by rw [List.length_map, List.length_map, hlen]; omega)
 have HBR := jh (Below.refl M w)
 have HSP := jh (splice_map l c f)
 have HM := jh hM
 obtain ⟨a4, cap4, rfl, _⟩ := id hv'
 have HV := jh hv'
 generalize ((o.drop c.length).map bval).length = n4 at *
 have HCT := jh hct
 have c0 := hM.cell 0
 have f0 := hM.free 0
 simp only [List.getElem?_cons_zero, List.getElem?_cons_succ] at c0
 have hcm3 : (c.length : Int) ≤ (o.length : Int) := by omega
 have hc0 : (0 : Int) ≤ (c.length : Int) := Int.natCast_nonneg _
 have hMlt := hM.lt
 clear hM hl hv' hcx hct t3 t4 he hcl
 go_enter Tryz.func120, Tryz.ntmps120
 go_upto_region 2 with (refine wpList_copy_splice rfl (.tmp 6) (.tmp 10) 25 25 rfl 5 Tryz.underlying25 num_one (some ⟨Bo, f, none⟩) a3 (K - f) (C - f) o.length cap3 rfl rfl Bo f (l.map bval) T HBO.out (c.map bval) HCL.out HCS.out HFT2.out (zag _) Bo w (Below.refl _ w) (Nat.le_refl _) ?_; intro w5 hc5 hb5)
 have hg5 := hc5.out
 rw [HSP.out] at hg5
 have HM5 := jh (HM.out.same (hb5.block M (by omega)))
 have HO5 : Hid (Blk w5 Bo ((l.take f ++ c ++ l.drop (f + c.length)).map bval) T) := jh hg5
 have HE5 := jh (hb5.mono (Nat.le_of_lt hMB))
 have HU5 : Hid (But M Bo w w5) := jh (But.of_below hb5)
 have c0 := HM5.out.cell 0
 have f0 := HM5.out.free 0
 simp only [List.getElem?_cons_zero, List.getElem?_cons_succ] at c0
 clear hc5 hb5 hg5 HCS HBO HCL HFT2 HBR HSP HM
 go_wp2_with fail
 go_ret
 exact ⟨_, c, HCT.out, rfl, HM5.out.set 0 _, HV.out, HO5.out.far (by simp; omega) _, Below.setCell HE5.out (by simp) _, HU5.out.set rfl _⟩
end Go.Proofs.YtimmnieopifcbaaGreatDoor
