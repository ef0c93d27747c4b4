/- The walks of the code's Add and Sub. Each theorem names its own conditions. -/
import Derived.Test.YtmiapjmdolecbaaDoorFldTop1
import Derived.Test.YtmiapjmdolecbaaDoorDetEnds
namespace Go.Proofs.YtmiapjmdolecbaaDoor
open Go.RowKit
set_option linter.unusedVariables false
set_option linter.unusedSimpArgs false

theorem limbsL_lt2 (l : List UInt8) : (limbsL l).lt 2251799813685267 := by
  have hd := wAt_lt l 24
  refine ⟨?_, ?_, ?_, ?_, ?_⟩ <;> simp only [limbsL, limbsW] <;> omega
structure SumL (xs ys zs : List Nat) (k : Nat) : Prop where
  len : zs.length = 5
  low : ∀ i, i < k → zs.getD i 0 = xs.getD i 0 + ys.getD i 0
  high : ∀ i, k ≤ i → zs.getD i 0 = xs.getD i 0
theorem SumL.step {xs ys zs : List Nat} {k : Nat} (h : SumL xs ys zs k) (hk : k < 5) : SumL xs ys (zs.set k (xs.getD k 0 + ys.getD k 0)) (k + 1) := by
  obtain ⟨h1, h2, h3⟩ := h
  refine ⟨by simp [h1], fun i hi => ?_, fun i hi => ?_⟩
  · by_cases e : i = k
    · subst e
      rw [getD_setN (by omega)]
    · rw [getD_setN_far (by omega)]
      exact h2 i (by omega)
  · rw [getD_setN_far (by omega)]
    exact h3 i (by omega)
theorem sum_done {x y : L5} {xs ys zs : List Nat} (ex : xs = [x.a, x.b, x.c, x.d, x.e]) (ey : ys = [y.a, y.b, y.c, y.d, y.e]) (hx : x.lt 2251799813685267) (hy : y.lt 2251799813685267) (h : SumL xs ys zs 5) :
    ∃ z : L5, zs = [z.a, z.b, z.c, z.d, z.e] ∧ z.lt 18446744073709551616 ∧ z.val = x.val + y.val := by
  subst ex
  subst ey
  have e := list5 zs h.len
  have f0 := h.low 0 (by omega)
  have f1 := h.low 1 (by omega)
  have f2 := h.low 2 (by omega)
  have f3 := h.low 3 (by omega)
  have f4 := h.low 4 (by omega)
  simp only [List.getD_cons_zero, List.getD_cons_succ] at f0 f1 f2 f3 f4
  obtain ⟨a0, a1, a2, a3, a4⟩ := hx
  obtain ⟨b0, b1, b2, b3, b4⟩ := hy
  refine ⟨⟨zs.getD 0 0, zs.getD 1 0, zs.getD 2 0, zs.getD 3 0, zs.getD 4 0⟩, e, ?_, ?_⟩
  · simp only [L5.lt]
    omega
  · simp only [L5.val]
    omega
/-- 2 p, so laid that no limb falls below 0. -/
def twiceL : L5 := ⟨4503599627370458, 4503599627370494, 4503599627370494, 4503599627370494, 4503599627370494⟩
def twiceN : List Nat := [4503599627370458, 4503599627370494, 4503599627370494, 4503599627370494, 4503599627370494]
theorem twice_bounds (k : Nat) (h : k < 5) : 4503599627370458 ≤ twiceN.getD k 0 ∧ twiceN.getD k 0 ≤ 4503599627370494 := by
  match k, h with
  | 0, _ => decide
  | 1, _ => decide
  | 2, _ => decide
  | 3, _ => decide
  | 4, _ => decide
structure DifL (xs ys zs : List Nat) (k : Nat) : Prop where
  len : zs.length = 5
  low : ∀ i, i < k → zs.getD i 0 = xs.getD i 0 + (twiceN.getD i 0 - ys.getD i 0)
  high : ∀ i, k ≤ i → zs.getD i 0 = xs.getD i 0
theorem DifL.step {xs ys zs : List Nat} {k : Nat} (h : DifL xs ys zs k) (hk : k < 5) : DifL xs ys (zs.set k (xs.getD k 0 + (twiceN.getD k 0 - ys.getD k 0))) (k + 1) := by
  obtain ⟨h1, h2, h3⟩ := h
  refine ⟨by simp [h1], fun i hi => ?_, fun i hi => ?_⟩
  · by_cases e : i = k
    · subst e
      rw [getD_setN (by omega)]
    · rw [getD_setN_far (by omega)]
      exact h2 i (by omega)
  · rw [getD_setN_far (by omega)]
    exact h3 i (by omega)
theorem dif_done {x y : L5} {xs ys zs : List Nat} (ex : xs = [x.a, x.b, x.c, x.d, x.e]) (ey : ys = [y.a, y.b, y.c, y.d, y.e]) (hx : x.lt 2251799813685267) (hy : y.lt 2251799813685267) (h : DifL xs ys zs 5) :
    ∃ z : L5, zs = [z.a, z.b, z.c, z.d, z.e] ∧ z.lt 18446744073709551616 ∧ Cong (z.val : Nat) ((x.val : Int) - (y.val : Nat)) := by
  subst ex
  subst ey
  have e := list5 zs h.len
  have f0 := h.low 0 (by omega)
  have f1 := h.low 1 (by omega)
  have f2 := h.low 2 (by omega)
  have f3 := h.low 3 (by omega)
  have f4 := h.low 4 (by omega)
  simp only [twiceN, List.getD_cons_zero, List.getD_cons_succ] at f0 f1 f2 f3 f4
  obtain ⟨a0, a1, a2, a3, a4⟩ := hx
  obtain ⟨b0, b1, b2, b3, b4⟩ := hy
  refine ⟨⟨zs.getD 0 0, zs.getD 1 0, zs.getD 2 0, zs.getD 3 0, zs.getD 4 0⟩, e, ?_, 2, ?_⟩
  · simp only [L5.lt]
    omega
  · have hp : pP = 57896044618658097711785492504343953926634992332820282019728792003956564819949 := rfl
    rw [hp]
    simp only [L5.val]
    omega

set_option maxRecDepth 100000 in
set_option maxHeartbeats 4000000 in
theorem Add_num (l m : List UInt8) (w : World) (hl : l.length = 32) (hm : m.length = 32) :
    Calls Tryd.prog 10 #[.agg (l.map bval).toArray, .agg (m.map bval).toArray] w fun e w' => e = .returned (numP ((leN l : Int) + leN m)) ∧ Below w.heap.size w w' := by
  have HLl := Lib.hid hl
  have HLm := Lib.hid hm
  have HIl : Hid ((Tryd.prog.info? 23).map (·.size) = some (l.map bval).length) := Lib.hid (by rw [List.length_map, hl]; exact Tryd.arr23)
  have HIm : Hid ((Tryd.prog.info? 23).map (·.size) = some (m.map bval).length) := Lib.hid (by rw [List.length_map, hm]; exact Tryd.arr23)
  have HB := Lib.hid (boxes3 w (l.map bval) (m.map bval) zero32 23 23 23)
  clear hl hm
  go_enter Tryd.func10, Tryd.ntmps10
  go_wp2_with fail
  change Code.wp _ _ _ _ (((w.alloc (.cells (l.map bval).toArray 23)).alloc (.cells (m.map bval).toArray 23)).alloc (.cells zero32.toArray 23))
  generalize ((w.alloc (.cells (l.map bval).toArray 23)).alloc (.cells (m.map bval).toArray 23)).alloc (.cells zero32.toArray 23) = w0 at *
  obtain ⟨h1, h2, h3, h4⟩ := HB.out
  obtain ⟨A, hA⟩ : ∃ A, A = w.heap.size := ⟨_, rfl⟩
  rw [← hA] at h1 h2 h3 ⊢
  have hA2 : w.heap.size ≤ A := by omega
  have H1 := Lib.hid h1
  have H2 := Lib.hid h2
  have H3 := Lib.hid h3
  have HE : Hid (Ext w w0) := Lib.hid h4
  clear h1 h2 h3 h4 HB hA
  have H30 := H3.out.lt
  refine wp_region_from 4 4 6 rfl (by kernel_rfl) (by kernel_rfl) (fun d v c a w h => by cases d <;> exact h) (by kernel_rfl) ?_
  refine det_load _ _ A (l.map bval) _ (by rfl) rfl rfl (fun w hw => ext_range H1.out hw) Tryd.underlying23 rfl HIl.out ?_
  simp only [Act.put, List.setIfInBounds_toArray, List.set_cons_zero, List.set_cons_succ]
  refine det_call _ _ _ [.agg (l.map bval).toArray] ((limbsL l).v) (by rfl) rfl Tryd.call12 rfl (fun w hw => limbsOf_any l HLl.out w) ?_
  simp only [Act.put, List.setIfInBounds_toArray, List.set_cons_zero, List.set_cons_succ]
  refine det_load _ _ (A + 1) (m.map bval) _ (by rfl) rfl rfl (fun w hw => ext_range H2.out hw) Tryd.underlying23 rfl HIm.out ?_
  simp only [Act.put, List.setIfInBounds_toArray, List.set_cons_zero, List.set_cons_succ]
  refine det_call _ _ _ [.agg (m.map bval).toArray] ((limbsL m).v) (by rfl) rfl Tryd.call12 rfl (fun w hw => limbsOf_any m HLm.out w) ?_
  simp only [Act.put, List.setIfInBounds_toArray, List.set_cons_zero, List.set_cons_succ]
  refine det_nil (end_var2 (k := 4) _ 5 6 (.tmp 9) (.tmp 11) zero5 (limbsL l).vs (limbsL m).vs rfl rfl rfl rfl (by kernel_rfl) (by kernel_rfl) (by kernel_rfl) (by kernel_rfl) (by kernel_rfl) (by kernel_rfl) (by kernel_rfl) (by kernel_rfl) (by kernel_rfl) (by kernel_rfl) rfl rfl rfl rfl rfl rfl rfl rfl (by decide) Tryd.zeroValue33 rfl rfl rfl rfl (by simp) (by simp) (fun p q => rfl) (fun p q => rfl) rfl rfl Tryd.arr33 Tryd.arr33 (L5.vs_one _) (L5.vs_one _) (fun p q w1 hpq hp hq hb1 hb2 he => ?_))
  simp only [Act.put, List.setIfInBounds_toArray, List.set_cons_zero, List.set_cons_succ]
  have H3 := Lib.hid (ext_blk H3.out he)
  have HE := Lib.hid (HE.out.trans he)
  have HX := Lib.hid hb1
  have HY := Lib.hid hb2
  have h3A := H3.out.lt
  have h3p : A + 1 + 1 < w0.heap.size := H30
  have hpA : A + 1 + 1 < p := by omega
  have hqA : A + 1 + 1 < q := by omega
  clear hb1 hb2 he h3A h3p hp hq
  obtain ⟨lx, hlx⟩ : ∃ x, x = limbsL l := ⟨_, rfl⟩
  obtain ⟨ly, hly⟩ : ∃ x, x = limbsL m := ⟨_, rfl⟩
  rw [← hlx] at HX
  rw [← hly] at HY
  have HLX : Hid (lx.lt 2251799813685267) := Lib.hid (by rw [hlx]; exact limbsL_lt2 l)
  have HLY : Hid (ly.lt 2251799813685267) := Lib.hid (by rw [hly]; exact limbsL_lt2 m)
  have HVX : Hid (Cong (lx.val : Nat) (leN l : Nat)) := Lib.hid (by rw [hlx]; exact limbsL_val l HLl.out)
  have HVY : Hid (Cong (ly.val : Nat) (leN m : Nat)) := Lib.hid (by rw [hly]; exact limbsL_val m HLm.out)
  obtain ⟨xs, hxs⟩ : ∃ xs, xs = [lx.a, lx.b, lx.c, lx.d, lx.e] := ⟨_, rfl⟩
  obtain ⟨ys, hys⟩ : ∃ ys, ys = [ly.a, ly.b, ly.c, ly.d, ly.e] := ⟨_, rfl⟩
  have HXL : Hid (xs.length = 5) := Lib.hid (by rw [hxs]; rfl)
  have HYL : Hid (ys.length = 5) := Lib.hid (by rw [hys]; rfl)
  have HXB : Hid (∀ i, xs.getD i 0 < 2251799813685267) := Lib.hid (by rw [hxs]; exact getD_all5 HLX.out (by omega))
  have HYB : Hid (∀ i, ys.getD i 0 < 2251799813685267) := Lib.hid (by rw [hys]; exact getD_all5 HLY.out (by omega))
  have HX : Hid (Blk w1 p (nats xs) 33) := Lib.hid (by rw [hxs]; exact HX.out)
  have HY : Hid (Blk w1 q (nats ys) 33) := Lib.hid (by rw [hys]; exact HY.out)
  have HXS := Lib.hid hxs
  have HYS := Lib.hid hys
  clear hlx hly hxs hys
  go_wp2_with fail
  obtain ⟨wo, rfl⟩ : ∃ wo : World, wo = w1 := ⟨_, rfl⟩
  go_loopw [12] (fun i wr => ∃ (k : Nat) (zs : List Nat), k ≤ 5 ∧ i = .int .i64 k ∧ SumL xs ys zs k ∧ Blk wr p (nats zs) 33 ∧ Blk wr q (nats ys) 33 ∧ Blk wr (A + 1 + 1) zero32 23 ∧ Ext w wr) (fun i _ => 5 - (intOf i).toNat)
  case atStart => exact ⟨0, xs, by omega, rfl, ⟨HXL.out, fun i hi => by omega, fun i _ => rfl⟩, HX.out, HY.out, H3.out, HE.out⟩
  case round =>
    clear HX HY H3 HE
    obtain ⟨k, zs, hk, rfl, hs, hb1, hb2, hb3, hbe⟩ := hrel
    have i0' : (0 : Int) ≤ (k : Int) := Int.natCast_nonneg _
    have hl5 := hs.len
    by_cases hlt : k < 5
    · have i1 : (k : Int) < 5 := by omega
      have e1 := hb1.cell k
      rw [nats_get (by omega), hs.high k (Nat.le_refl _)] at e1
      have e2 := hb2.cell k
      rw [nats_get (by have := HYL.out; omega)] at e2
      have f1 := hb1.free k
      have b1 := HXB.out k
      have b2 := HYB.out k
      have hst := hs.step hlt
      generalize xs.getD k 0 = a at *
      generalize ys.getD k 0 = b at *
      have W1 : Hid (((a : Int) + (b : Int)) = ((a + b : Nat) : Int)) := Lib.hid (by omega)
      have W2 : IntKind.u64.wrap ((a : Int) + (b : Int)) = (a : Int) + (b : Int) := by rw [IntKind.wrap_u64]; omega
      have HST := Lib.hid hst
      have HB1 := Lib.hid hb1
      have HB2 := Lib.hid hb2
      have HB3 := Lib.hid hb3
      have HBE := Lib.hid hbe
      clear hs hst hb1 hb2 hb3 hbe hl5 b1 b2
      go_wp2_with fail
      go_region
      go_wp2_with fail
      go_roundw
      case rel =>
        rw [W1.out]
        refine ⟨k + 1, _, by omega, by go_num, HST.out, ?_, HB2.out.far (by simpa using hpq) _, HB3.out.far (by simp; omega) _, (Below.setCell HBE.out (by simp; omega) _).drew⟩
        rw [← nats_set]
        exact HB1.out.set k _
      case measure => simp [intOf]; omega
    · have hk' : k = 5 := by omega
      subst hk'
      obtain ⟨z, hz, hzlt, hzv⟩ := sum_done HXS.out HYS.out HLX.out HLY.out hs
      subst hz
      have HN := Lib.hid (numOf_any z hzlt)
      have HV : Hid (numP (z.val : Nat) = numP ((leN l : Int) + leN m)) := Lib.hid (numP_cong (by rw [hzv, Int.natCast_add]; exact HVX.out.add HVY.out))
      have HB1 := Lib.hid hb1
      have HB3 := Lib.hid hb3
      have HBE := Lib.hid hbe
      clear hb1 hb2 hb3 hbe hs hl5
      go_wp2_with (refine wpList_load_blk rfl _ _ rfl p rfl _ z.vs _ _ HB1.out Tryd.underlying33 Tryd.arr33 ?_)
      refine (HN.out _).mono ?_
      rintro e w2 ⟨rfl, hb⟩
      have HB3 := Lib.hid (ext_blk HB3.out hb)
      have HBE := Lib.hid (HBE.out.trans hb)
      clear hb
      rw [HV.out]
      go_wp2_with (refine wpList_store_blk rfl _ _ _ rfl (A + 1 + 1) ((nb ((leN l : Int) + leN m)).map bval) rfl rfl _ _ HB3.out (nb_len _) (nb_size _) (bval_one _) ?_; intro w5 hb5 hg5)
      exact bodyPost_ret (v := numP ((leN l : Int) + leN m)) (result_row (by rfl) _ (A + 1 + 1) _ _ _ (by rfl) hb5 Tryd.underlying23 rfl (nb_size _)) rfl ⟨rfl, ext_grown HBE.out hg5 (by omega)⟩

set_option maxRecDepth 100000 in
set_option maxHeartbeats 4000000 in
theorem Sub_num (l m : List UInt8) (w : World) (hl : l.length = 32) (hm : m.length = 32) :
    Calls Tryd.prog 9 #[.agg (l.map bval).toArray, .agg (m.map bval).toArray] w fun e w' => e = .returned (numP ((leN l : Int) - leN m)) ∧ Below w.heap.size w w' := by
  have HLl := Lib.hid hl
  have HLm := Lib.hid hm
  have HIl : Hid ((Tryd.prog.info? 23).map (·.size) = some (l.map bval).length) := Lib.hid (by rw [List.length_map, hl]; exact Tryd.arr23)
  have HIm : Hid ((Tryd.prog.info? 23).map (·.size) = some (m.map bval).length) := Lib.hid (by rw [List.length_map, hm]; exact Tryd.arr23)
  have HB := Lib.hid (boxes3 w (l.map bval) (m.map bval) zero32 23 23 23)
  clear hl hm
  go_enter Tryd.func9, Tryd.ntmps9
  go_wp2_with fail
  change Code.wp _ _ _ _ (((w.alloc (.cells (l.map bval).toArray 23)).alloc (.cells (m.map bval).toArray 23)).alloc (.cells zero32.toArray 23))
  generalize ((w.alloc (.cells (l.map bval).toArray 23)).alloc (.cells (m.map bval).toArray 23)).alloc (.cells zero32.toArray 23) = w0 at *
  obtain ⟨h1, h2, h3, h4⟩ := HB.out
  obtain ⟨A, hA⟩ : ∃ A, A = w.heap.size := ⟨_, rfl⟩
  rw [← hA] at h1 h2 h3 ⊢
  have hA2 : w.heap.size ≤ A := by omega
  have H1 := Lib.hid h1
  have H2 := Lib.hid h2
  have H3 := Lib.hid h3
  have HE : Hid (Ext w w0) := Lib.hid h4
  clear h1 h2 h3 h4 HB hA
  have H30 := H3.out.lt
  refine wp_region_from 4 4 6 rfl (by kernel_rfl) (by kernel_rfl) (fun d v c a w h => by cases d <;> exact h) (by kernel_rfl) ?_
  refine det_load _ _ A (l.map bval) _ (by rfl) rfl rfl (fun w hw => ext_range H1.out hw) Tryd.underlying23 rfl HIl.out ?_
  simp only [Act.put, List.setIfInBounds_toArray, List.set_cons_zero, List.set_cons_succ]
  refine det_call _ _ _ [.agg (l.map bval).toArray] ((limbsL l).v) (by rfl) rfl Tryd.call12 rfl (fun w hw => limbsOf_any l HLl.out w) ?_
  simp only [Act.put, List.setIfInBounds_toArray, List.set_cons_zero, List.set_cons_succ]
  refine det_load _ _ (A + 1) (m.map bval) _ (by rfl) rfl rfl (fun w hw => ext_range H2.out hw) Tryd.underlying23 rfl HIm.out ?_
  simp only [Act.put, List.setIfInBounds_toArray, List.set_cons_zero, List.set_cons_succ]
  refine det_call _ _ _ [.agg (m.map bval).toArray] ((limbsL m).v) (by rfl) rfl Tryd.call12 rfl (fun w hw => limbsOf_any m HLm.out w) ?_
  simp only [Act.put, List.setIfInBounds_toArray, List.set_cons_zero, List.set_cons_succ]
  refine det_nil (end_var2 (k := 4) _ 5 6 (.tmp 10) (.tmp 12) zero5 (limbsL l).vs (limbsL m).vs rfl rfl rfl rfl (by kernel_rfl) (by kernel_rfl) (by kernel_rfl) (by kernel_rfl) (by kernel_rfl) (by kernel_rfl) (by kernel_rfl) (by kernel_rfl) (by kernel_rfl) (by kernel_rfl) rfl rfl rfl rfl rfl rfl rfl rfl (by decide) Tryd.zeroValue33 rfl rfl rfl rfl (by simp) (by simp) (fun p q => rfl) (fun p q => rfl) rfl rfl Tryd.arr33 Tryd.arr33 (L5.vs_one _) (L5.vs_one _) (fun p q w1 hpq hp hq hb1 hb2 he => ?_))
  simp only [Act.put, List.setIfInBounds_toArray, List.set_cons_zero, List.set_cons_succ]
  have H3 := Lib.hid (ext_blk H3.out he)
  have HE := Lib.hid (HE.out.trans he)
  have HX := Lib.hid hb1
  have HY := Lib.hid hb2
  have h3A := H3.out.lt
  have h3p : A + 1 + 1 < w0.heap.size := H30
  have hpA : A + 1 + 1 < p := by omega
  have hqA : A + 1 + 1 < q := by omega
  clear hb1 hb2 he h3A h3p hp hq
  obtain ⟨lx, hlx⟩ : ∃ x, x = limbsL l := ⟨_, rfl⟩
  obtain ⟨ly, hly⟩ : ∃ x, x = limbsL m := ⟨_, rfl⟩
  rw [← hlx] at HX
  rw [← hly] at HY
  have HLX : Hid (lx.lt 2251799813685267) := Lib.hid (by rw [hlx]; exact limbsL_lt2 l)
  have HLY : Hid (ly.lt 2251799813685267) := Lib.hid (by rw [hly]; exact limbsL_lt2 m)
  have HVX : Hid (Cong (lx.val : Nat) (leN l : Nat)) := Lib.hid (by rw [hlx]; exact limbsL_val l HLl.out)
  have HVY : Hid (Cong (ly.val : Nat) (leN m : Nat)) := Lib.hid (by rw [hly]; exact limbsL_val m HLm.out)
  obtain ⟨xs, hxs⟩ : ∃ xs, xs = [lx.a, lx.b, lx.c, lx.d, lx.e] := ⟨_, rfl⟩
  obtain ⟨ys, hys⟩ : ∃ ys, ys = [ly.a, ly.b, ly.c, ly.d, ly.e] := ⟨_, rfl⟩
  have HXL : Hid (xs.length = 5) := Lib.hid (by rw [hxs]; rfl)
  have HYL : Hid (ys.length = 5) := Lib.hid (by rw [hys]; rfl)
  have HXB : Hid (∀ i, xs.getD i 0 < 2251799813685267) := Lib.hid (by rw [hxs]; exact getD_all5 HLX.out (by omega))
  have HYB : Hid (∀ i, ys.getD i 0 < 2251799813685267) := Lib.hid (by rw [hys]; exact getD_all5 HLY.out (by omega))
  have HX : Hid (Blk w1 p (nats xs) 33) := Lib.hid (by rw [hxs]; exact HX.out)
  have HY : Hid (Blk w1 q (nats ys) 33) := Lib.hid (by rw [hys]; exact HY.out)
  have HXS := Lib.hid hxs
  have HYS := Lib.hid hys
  clear hlx hly hxs hys
  go_wp2_with fail
  have HT0 := Lib.hid (Blk.made w1 twiceL.vs 33)
  have HA0 := Lib.hid (Ext.alloc w1 (.cells twiceL.vs.toArray 33))
  obtain ⟨R, hR⟩ : ∃ R, R = w1.heap.size := ⟨_, rfl⟩
  have hpR : p < R := by have := HX.out.lt; omega
  have hqR : q < R := by have := HY.out.lt; omega
  have hRA : A + 1 + 1 < R := by omega
  change Code.wp _ _ _ _ (w1.alloc (.cells twiceL.vs.toArray 33))
  rw [← hR] at HT0 ⊢
  have HX := Lib.hid (ext_blk HX.out HA0.out)
  have HY := Lib.hid (ext_blk HY.out HA0.out)
  have H3 := Lib.hid (ext_blk H3.out HA0.out)
  have HE := Lib.hid (HE.out.trans HA0.out)
  generalize w1.alloc (.cells twiceL.vs.toArray 33) = w2 at *
  clear hR HA0
  have HT : Hid (Blk w2 R (nats twiceN) 33) := HT0
  clear HT0
  obtain ⟨wo, rfl⟩ : ∃ wo : World, wo = w2 := ⟨_, rfl⟩
  go_loopw [14] (fun i wr => ∃ (k : Nat) (zs : List Nat), k ≤ 5 ∧ i = .int .i64 k ∧ DifL xs ys zs k ∧ Blk wr p (nats zs) 33 ∧ Blk wr q (nats ys) 33 ∧ Blk wr R (nats twiceN) 33 ∧ Blk wr (A + 1 + 1) zero32 23 ∧ Ext w wr) (fun i _ => 5 - (intOf i).toNat)
  case atStart => exact ⟨0, xs, by omega, rfl, ⟨HXL.out, fun i hi => by omega, fun i _ => rfl⟩, HX.out, HY.out, HT.out, H3.out, HE.out⟩
  case round =>
    clear HX HY H3 HE HT
    obtain ⟨k, zs, hk, rfl, hs, hb1, hb2, hbt, hb3, hbe⟩ := hrel
    have i0' : (0 : Int) ≤ (k : Int) := Int.natCast_nonneg _
    have hl5 := hs.len
    by_cases hlt : k < 5
    · have i1 : (k : Int) < 5 := by omega
      have e1 := hb1.cell k
      rw [nats_get (by omega), hs.high k (Nat.le_refl _)] at e1
      have e2 := hb2.cell k
      rw [nats_get (by have := HYL.out; omega)] at e2
      have e3 := hbt.cell k
      rw [nats_get (by simpa [twiceN] using hlt)] at e3
      have f1 := hb1.free k
      have b1 := HXB.out k
      have b2 := HYB.out k
      have b3 := twice_bounds k hlt
      have hst := hs.step hlt
      generalize xs.getD k 0 = a at *
      generalize ys.getD k 0 = b at *
      generalize twiceN.getD k 0 = c at *
      obtain ⟨b31, b32⟩ := b3
      have W1 : Hid (((a : Int) + ((c : Int) - (b : Int))) = ((a + (c - b) : Nat) : Int)) := Lib.hid (by omega)
      have W2 : IntKind.u64.wrap ((c : Int) - (b : Int)) = (c : Int) - (b : Int) := by rw [IntKind.wrap_u64]; omega
      have W3 : IntKind.u64.wrap ((a : Int) + ((c : Int) - (b : Int))) = (a : Int) + ((c : Int) - (b : Int)) := by rw [IntKind.wrap_u64]; omega
      have HST := Lib.hid hst
      have HB1 := Lib.hid hb1
      have HB2 := Lib.hid hb2
      have HB3 := Lib.hid hb3
      have HBT := Lib.hid hbt
      have HBE := Lib.hid hbe
      clear hs hst hb1 hb2 hb3 hbt hbe hl5 b1 b2 b31 b32
      go_wp2_with fail
      go_region
      go_wp2_with fail
      go_roundw
      case rel =>
        rw [W1.out]
        refine ⟨k + 1, _, by omega, by go_num, HST.out, ?_, HB2.out.far (by simpa using hpq) _, HBT.out.far (by simp; omega) _, HB3.out.far (by simp; omega) _, (Below.setCell HBE.out (by simp; omega) _).drew⟩
        rw [← nats_set]
        exact HB1.out.set k _
      case measure => simp [intOf]; omega
    · have hk' : k = 5 := by omega
      subst hk'
      obtain ⟨z, hz, hzlt, hzv⟩ := dif_done HXS.out HYS.out HLX.out HLY.out hs
      subst hz
      have HN := Lib.hid (numOf_any z hzlt)
      have HV : Hid (numP (z.val : Nat) = numP ((leN l : Int) - leN m)) := Lib.hid (numP_cong (hzv.trans (HVX.out.sub HVY.out)))
      have HB1 := Lib.hid hb1
      have HB3 := Lib.hid hb3
      have HBE := Lib.hid hbe
      clear hb1 hb2 hb3 hbt hbe hs hl5
      go_wp2_with (refine wpList_load_blk rfl _ _ rfl p rfl _ z.vs _ _ HB1.out Tryd.underlying33 Tryd.arr33 ?_)
      refine (HN.out _).mono ?_
      rintro e w2 ⟨rfl, hb⟩
      have HB3 := Lib.hid (ext_blk HB3.out hb)
      have HBE := Lib.hid (HBE.out.trans hb)
      clear hb
      rw [HV.out]
      go_wp2_with (refine wpList_store_blk rfl _ _ _ rfl (A + 1 + 1) ((nb ((leN l : Int) - leN m)).map bval) rfl rfl _ _ HB3.out (nb_len _) (nb_size _) (bval_one _) ?_; intro w5 hb5 hg5)
      exact bodyPost_ret (v := numP ((leN l : Int) - leN m)) (result_row (by rfl) _ (A + 1 + 1) _ _ _ (by rfl) hb5 Tryd.underlying23 rfl (nb_size _)) rfl ⟨rfl, ext_grown HBE.out hg5 (by omega)⟩

end Go.Proofs.YtmiapjmdolecbaaDoor
