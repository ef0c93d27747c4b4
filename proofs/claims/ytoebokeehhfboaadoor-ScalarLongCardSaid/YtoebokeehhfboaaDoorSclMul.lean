/- The walk of the code's Mul. Each theorem names its own conditions. -/
import Derived.Test.YtoebokeehhfboaaDoorSclOps
namespace Go.Proofs.YtoebokeehhfboaaDoor
open Go.RowKit
set_option linter.unusedVariables false
set_option linter.unusedSimpArgs false

set_option maxRecDepth 100000 in
set_option maxHeartbeats 4000000 in
theorem Mul_num (l m : List UInt8) (w : World) (hl : l.length = 32) (hm : m.length = 32) (hG : GlobT w) :
    Calls Tryd.prog 14 #[.agg (l.map bval).toArray, .agg (m.map bval).toArray] w fun e w' => e = .returned (.agg ((nq ((leN l : Nat) * (leN m : Nat))).map bval).toArray) ∧ Below w.heap.size w w' := by
  have HSM := Lib.hid (leN_prod l m hl hm)
  have HXT := Lib.hid ((limF_can l (by omega)).ten (leN_ten l hl) (by omega))
  have HYT := Lib.hid ((limF_can m (by omega)).ten (leN_ten m hm) (by omega))
  have HL := Lib.hid hl
  have HM := Lib.hid hm
  have HG := Lib.hid hG
  have HIl : Hid ((Tryd.prog.info? 25).map (·.size) = some (l.map bval).length) := Lib.hid (num_size hl)
  have HIm : Hid ((Tryd.prog.info? 25).map (·.size) = some (m.map bval).length) := Lib.hid (num_size hm)
  have HCX := Lib.hid (limF_can l (by omega))
  have HCY := Lib.hid (limF_can m (by omega))
  have HB := Lib.hid (boxes3 w (l.map bval) (m.map bval) (ints .u8 (List.replicate 32 0)) 25 25 25)
  clear hl hm hG
  go_enter Tryd.func14, Tryd.ntmps14
  go_wp2_with fail
  change Code.wp _ _ _ _ (((w.alloc (.cells (l.map bval).toArray 25)).alloc (.cells (m.map bval).toArray 25)).alloc (.cells (ints .u8 (List.replicate 32 0)).toArray 25))
  generalize ((w.alloc (.cells (l.map bval).toArray 25)).alloc (.cells (m.map bval).toArray 25)).alloc (.cells (ints .u8 (List.replicate 32 0)).toArray 25) = w0 at *
  obtain ⟨h1, h2, h3, hE⟩ := HB.out
  obtain ⟨A, hA⟩ : ∃ A, A = w.heap.size := ⟨_, rfl⟩
  rw [← hA] at h1 h2 h3 ⊢
  have hA2 : w.heap.size ≤ A := by omega
  have hA3 : A + 1 + 1 < w0.heap.size := h3.lt
  have H1 := Lib.hid h1
  have H2 := Lib.hid h2
  have H3 := Lib.hid h3
  have HE : Hid (Ext w w0) := Lib.hid hE
  clear h1 h2 h3 hE HB hA
  refine wp_region_from 4 4 6 rfl (by kernel_rfl) (by kernel_rfl) (fun d v c a w h => by cases d <;> exact h) (by kernel_rfl) ?_
  refine det_val (.slice (some ⟨A, 0, none⟩) 32 32) (by rfl) (fun w hw => by go_simp) ?_
  simp only [Act.put, List.setIfInBounds_toArray, List.set_cons_zero, List.set_cons_succ]
  refine det_call _ _ _ [.slice (some ⟨A, 0, none⟩) 32 32] (.agg (ints .i64 (limF l)).toArray) (by rfl) rfl Tryd.call18 rfl (fun w hw => lim_blk l (ext_blk H1.out hw) HL.out) ?_
  simp only [Act.put, List.setIfInBounds_toArray, List.set_cons_zero, List.set_cons_succ]
  refine det_val (.slice (some ⟨(A + 1), 0, none⟩) 32 32) (by rfl) (fun w hw => by go_simp) ?_
  simp only [Act.put, List.setIfInBounds_toArray, List.set_cons_zero, List.set_cons_succ]
  refine det_call _ _ _ [.slice (some ⟨(A + 1), 0, none⟩) 32 32] (.agg (ints .i64 (limF m)).toArray) (by rfl) rfl Tryd.call18 rfl (fun w hw => lim_blk m (ext_blk H2.out hw) HM.out) ?_
  simp only [Act.put, List.setIfInBounds_toArray, List.set_cons_zero, List.set_cons_succ]
  refine det_nil (end_var2 (k := 4) 36 5 6 (.tmp 11) (.tmp 13) (ints .i64 (List.replicate 19 0)) (ints .i64 (limF l)) (ints .i64 (limF m)) rfl rfl rfl rfl (by kernel_rfl) (by kernel_rfl) (by kernel_rfl) (by kernel_rfl) (by kernel_rfl) (by kernel_rfl) (by kernel_rfl) (by kernel_rfl) (by kernel_rfl) (by kernel_rfl) rfl rfl rfl rfl rfl rfl rfl rfl (by decide) (fun w => by rw [Tryd.zeroValue36]; rfl) rfl rfl rfl rfl (by simp) (by simp) (fun p q => rfl) (fun p q => rfl) (by rw [ints_length, ints_length, limF_length]; rfl) (by rw [ints_length, ints_length, limF_length]; rfl) (by rw [ints_length, limF_length]; exact Tryd.arr36) (by rw [ints_length, limF_length]; exact Tryd.arr36) (ints_one _ _) (ints_one _ _) ?_)
  intro p q w1 hpq hp hq hb1 hb2 he1
  have HPQ := Lib.hid hpq
  have H3 := Lib.hid (ext_blk H3.out he1)
  have HE := Lib.hid (HE.out.trans he1)
  have HX := Lib.hid hb1
  have HY := Lib.hid hb2
  have hpA : A + 1 + 1 < p := by omega
  have hqA : A + 1 + 1 < q := by omega
  have hpw : p < w1.heap.size := hb1.lt
  have hqw : q < w1.heap.size := hb2.lt
  clear hpq hb1 hb2 he1 H1 H2
  clear hp hq
  go_wp2_with fail
  change Code.wp _ _ _ _ (w1.alloc (.cells (ints .i64 (List.replicate 19 0)).toArray 36))
  have HZ := Lib.hid (Blk.made w1 (ints .i64 (List.replicate 19 0)) 36)
  have H3 := Lib.hid (H3.out.alloc (.cells (ints .i64 (List.replicate 19 0)).toArray 36))
  have HX := Lib.hid (HX.out.alloc (.cells (ints .i64 (List.replicate 19 0)).toArray 36))
  have HY := Lib.hid (HY.out.alloc (.cells (ints .i64 (List.replicate 19 0)).toArray 36))
  have HE := Lib.hid (HE.out.trans (Ext.alloc w1 (.cells (ints .i64 (List.replicate 19 0)).toArray 36)))
  generalize w1.alloc (.cells (ints .i64 (List.replicate 19 0)).toArray 36) = w2 at *
  generalize w1.heap.size = D at *
  have HXL := Lib.hid HCX.out.len
  have HYL := Lib.hid HCY.out.len
  have HXR : Hid (∀ j, 0 ≤ (limF l).getD j 0 ∧ (limF l).getD j 0 ≤ 268435456) := Lib.hid (fun j => by have := HCX.out.range j; omega)
  have HYR : Hid (∀ j, 0 ≤ (limF m).getD j 0 ∧ (limF m).getD j 0 ≤ 268435456) := Lib.hid (fun j => by have := HCY.out.range j; omega)
  clear HCX HCY
  generalize limF l = x at *
  generalize limF m = y at *
  go_loopw [14] (fun i wr => ∃ (k : Nat), k ≤ 10 ∧ i = .int .i64 (k : Int) ∧ Blk wr D (ints .i64 (mAll x y k)) 36 ∧ Blk wr p (ints .i64 x) 36 ∧ Blk wr q (ints .i64 y) 36 ∧ Blk wr (A + 1 + 1) (ints .u8 (List.replicate 32 0)) 25 ∧ Ext w wr) (fun i _ => 10 - (intOf i).toNat)
  case atStart => exact ⟨0, by omega, rfl, HZ.out, HX.out, HY.out, H3.out, HE.out⟩
  case round =>
    clear HX HY HZ H3 HE
    obtain ⟨i, hi, rfl, hbz, hb1, hb2, hb3, hbel⟩ := hrel
    have i0' : (0 : Int) ≤ (i : Int) := Int.natCast_nonneg _
    by_cases hlt : i < 10
    · have i1 : (i : Int) < 10 := by omega
      have HZ := Lib.hid hbz
      have HX := Lib.hid hb1
      have HY := Lib.hid hb2
      have H3 := Lib.hid hb3
      have HE := Lib.hid hbel
      clear hbz hb1 hb2 hb3 hbel
      have HPR := Lib.hid (mAll_range HXR.out HYR.out i (by omega))
      have HPL := Lib.hid (mAll_length x y i)
      have HNX : Hid (mAll x y (i + 1) = mRow (mAll x y i) x y i 10) := Lib.hid rfl
      generalize mAll x y i = z at *
      go_wp2_with fail
      obtain ⟨wo, rfl⟩ : ∃ wo : World, wo = wr := ⟨_, rfl⟩
      go_loopw [17] (fun j wr => ∃ (k : Nat), k ≤ 10 ∧ j = .int .i64 (k : Int) ∧ Blk wr D (ints .i64 (mRow z x y i k)) 36 ∧ Blk wr p (ints .i64 x) 36 ∧ Blk wr q (ints .i64 y) 36 ∧ Blk wr (A + 1 + 1) (ints .u8 (List.replicate 32 0)) 25 ∧ Ext w wr) (fun j _ => 10 - (intOf j).toNat)
      case atStart => exact ⟨0, by omega, rfl, HZ.out, HX.out, HY.out, H3.out, HE.out⟩
      case round =>
        clear HX HY HZ H3 HE
        obtain ⟨j, hj, rfl, hbz, hb1, hb2, hb3, hbel⟩ := hrel
        have j0' : (0 : Int) ≤ (j : Int) := Int.natCast_nonneg _
        by_cases hlj : j < 10
        · have j1 : (j : Int) < 10 := by omega
          have hxl := HXL.out
          have hyl := HYL.out
          have hzl := mRow_length z x y i j
          rw [HPL.out] at hzl
          have e1 := hb1.cell i
          rw [ints_get (by omega)] at e1
          have e2 := hb2.cell j
          rw [ints_get (by omega)] at e2
          have e3 := hbz.cell (i + j)
          rw [ints_get (by omega)] at e3
          have f3 := hbz.free (i + j)
          have q1 := HXR.out i
          have q2 := HYR.out j
          have q3 := mRow_range hlt HPL.out HPR.out (HXR.out i) HYR.out j (by omega) (i + j)
          have hst : mRow z x y i (j + 1) = (mRow z x y i j).set (i + j) ((mRow z x y i j).getD (i + j) 0 + x.getD i 0 * y.getD j 0) := rfl
          have HST := Lib.hid hst
          have q4 := mul_range q1.1 q1.2 q2.1 q2.2
          generalize (mRow z x y i j).getD (i + j) 0 = a at *
          generalize x.getD i 0 = u at *
          generalize y.getD j 0 = t at *
          obtain ⟨ij, hij⟩ : ∃ ij : Nat, ij = i + j := ⟨_, rfl⟩
          rw [← hij] at e3 f3
          have hij2 : (i : Int) + (j : Int) = (ij : Int) := by omega
          have ij1 : (ij : Int) < 19 := by omega
          have HIJ := Lib.hid hij
          have HZ := Lib.hid hbz
          have HX := Lib.hid hb1
          have HY := Lib.hid hb2
          have H3 := Lib.hid hb3
          have HE := Lib.hid hbel
          clear hst hbz hb1 hb2 hb3 hbel hxl hyl hzl hij
          go_wp2_with fail
          go_region
          go_wp2_with fail
          go_roundw
          case rel =>
            refine ⟨j + 1, by omega, by go_num, ?_, (HX.out.far (by simp; omega) _).drewN 1, (HY.out.far (by simp; omega) _).drewN 1, (H3.out.far (by simp; omega) _).drewN 1, (Below.setCell HE.out (by simp; omega) _).drew⟩
            rw [HST.out, ← ints_set, ← HIJ.out]
            exact (HZ.out.set ij _).drewN 1
          case measure => simp [intOf]; omega
        · have hj' : j = 10 := by omega
          subst hj'
          rw [← HNX.out] at hbz
          have HZ := Lib.hid hbz
          have HX := Lib.hid hb1
          have HY := Lib.hid hb2
          have H3 := Lib.hid hb3
          have HE := Lib.hid hbel
          clear hbz hb1 hb2 hb3 hbel
          go_wp2_with fail
          go_roundw
          case rel => exact ⟨i + 1, by omega, by go_num, HZ.out, HX.out, HY.out, H3.out, HE.out⟩
          case measure => simp [intOf]; omega
    · have hi' : i = 10 := by omega
      subst hi'
      have hzl := mAll_length x y 10
      have hval := mAll_val x y HXL.out HYL.out 10 (by omega)
      rw [HXT.out, HYT.out] at hval
      have HNM := Lib.hid (fun w hw => numOf_any (mAll x y 10) ((leN l : Nat) * (leN m : Nat)) 720575940379279360 w hw hzl (by omega) (by omega) (fun j hj => by
        have := mAll_range HXR.out HYR.out 10 (by omega) j
        omega) hval (Int.mul_nonneg (by omega) (by omega)) HSM.out)
      have hi1 : Hid ((Tryd.prog.info? 36).map (·.size) = some (ints .i64 (mAll x y 10)).length) := Lib.hid (by rw [ints_length, hzl]; exact Tryd.arr36)
      have HZ := Lib.hid hbz
      have H3 := Lib.hid hb3
      have HE := Lib.hid hbel
      clear hbz hb1 hb2 hb3 hbel hzl hval
      go_wp2_with (refine wpList_load_blk rfl _ _ rfl D rfl _ _ _ _ HZ.out Tryd.underlying36 hi1.out ?_)
      refine (HNM.out _ (HG.out.ext HE.out)).mono ?_
      rintro e w5 ⟨rfl, hb5⟩
      have H3 := Lib.hid (ext_blk H3.out hb5)
      have HE := Lib.hid (HE.out.trans hb5)
      have hi2 : Hid ((Tryd.prog.info? 25).map (·.size) = some ((nq ((leN l : Nat) * (leN m : Nat))).map bval).length) := Lib.hid (num_size (nq_length _))
      have hl2 : Hid (((nq ((leN l : Nat) * (leN m : Nat))).map bval).length = (ints .u8 (List.replicate 32 0)).length) := Lib.hid (by rw [List.length_map, nq_length]; rfl)
      clear hb5 HNM
      go_wp2_with (refine wpList_store_blk rfl _ _ _ rfl (A + 1 + 1) _ rfl rfl _ _ H3.out hl2.out hi2.out (bval_one _) ?_; intro w7 hb7 hg7)
      exact bodyPost_ret (v := .agg ((nq ((leN l : Nat) * (leN m : Nat))).map bval).toArray) (result_row (by rfl) _ (A + 1 + 1) _ _ _ (by rfl) hb7 Tryd.underlying25 rfl hi2.out) rfl ⟨rfl, ext_grown HE.out hg7 (by omega)⟩

end Go.Proofs.YtoebokeehhfboaaDoor
