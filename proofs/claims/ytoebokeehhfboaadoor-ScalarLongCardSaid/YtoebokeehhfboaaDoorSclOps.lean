/- The walks of the code's Less, Add and Mul. Each theorem names its own conditions. -/
import Derived.Test.YtoebokeehhfboaaDoorSclTop
import Derived.Test.YtoebokeehhfboaaDoorSclTopM
import Derived.Test.YtoebokeehhfboaaDoorDetEnds
namespace Go.Proofs.YtoebokeehhfboaaDoor
open Go.RowKit
set_option linter.unusedVariables false
set_option linter.unusedSimpArgs false

/-- A whole array, as a slice. -/
theorem Blk.row {w : World} {c : Nat} {cs : List Value} {t : TypeId} {n : Nat} (h : Blk w c cs t) (hn : cs.length = n) (hm : n ≤ maxLen) : Row1 w (.slice (some ⟨c, 0, none⟩) n n) cs := by
  subst hn
  refine ⟨_, _, rfl, Nat.le_refl _, hm, (fun e => by cases e), fun _ => ⟨c, 0, rfl, h.lt, fun i hi => ?_⟩⟩
  rw [Nat.zero_add, h.cell i]
theorem num_row {w : World} {c : Nat} {l : List UInt8} {t : TypeId} (h : Blk w c (l.map bval) t) (hl : l.length = 32) : Row1 w (.slice (some ⟨c, 0, none⟩) 32 32) (l.map bval) := h.row (by rw [List.length_map, hl]) (by unfold maxLen; omega)
theorem lim_blk (l : List UInt8) {w : World} {c : Nat} {t : TypeId} (h : Blk w c (l.map bval) t) (hl : l.length = 32) :
    Calls Tryd.prog 18 #[.slice (some ⟨c, 0, none⟩) 32 32] w fun e w' => e = .returned (.agg (ints .i64 (limF l)).toArray) ∧ Below w.heap.size w w' := limbsOf_any _ l w (by omega) (num_row h hl)
theorem red_blk (l : List UInt8) {w : World} {c : Nat} {t : TypeId} (h : Blk w c (l.map bval) t) (hl : l.length = 32) (hG : GlobT w) :
    Calls Tryd.prog 9 #[.slice (some ⟨c, 0, none⟩) 32 32] w fun e w' => e = .returned (.agg ((nq (leN l : Nat)).map bval).toArray) ∧ Below w.heap.size w w' := by
  have := Reduce_num _ l w (num_row h hl) hG
  rwa [List.take_of_length_le (by omega)] at this

set_option maxHeartbeats 4000000 in
theorem Less_num (l : List UInt8) (w : World) (hl : l.length = 32) (hG : GlobT w) :
    Calls Tryd.prog 11 #[.agg (l.map bval).toArray] w fun e w' => e = .returned (.bool (lessB l)) ∧ Below w.heap.size w w' := by
  have HL := Lib.hid hl
  have HG := Lib.hid hG
  have HI : Hid ((Tryd.prog.info? 25).map (·.size) = some (l.map bval).length) := Lib.hid (num_size hl)
  have HB := Lib.hid (Blk.made w (l.map bval) 25)
  have HA0 := Lib.hid (Ext.alloc w (.cells (l.map bval).toArray 25))
  clear hl hG
  go_enter Tryd.func11, Tryd.ntmps11
  go_wp2_with fail
  change Code.wp _ _ _ _ (w.alloc (.cells (l.map bval).toArray 25))
  generalize w.alloc (.cells (l.map bval).toArray 25) = w0 at *
  have h1 := HB.out
  have hE := HA0.out
  obtain ⟨A, hA⟩ : ∃ A, A = w.heap.size := ⟨_, rfl⟩
  rw [← hA] at h1 ⊢
  have H1 := Lib.hid h1
  have HE : Hid (Ext w w0) := Lib.hid hE
  clear h1 hE HB HA0
  have hred : ∀ w2, Ext w0 w2 → Calls Tryd.prog 9 #[.slice (some ⟨A, 0, none⟩) 32 32] w2 fun e w' => e = .returned (.agg ((nq (leN l : Nat)).map bval).toArray) ∧ Below w2.heap.size w2 w' := fun w2 hw => red_blk l (ext_blk H1.out hw) HL.out (HG.out.ext (HE.out.trans hw))
  refine wp_region_all (by kernel_rfl) (by kernel_rfl) ?_
  refine det_val (.slice (some ⟨A, 0, none⟩) 32 32) (by rfl) (fun w hw => by go_simp) ?_
  simp only [Act.put, List.setIfInBounds_toArray, List.set_cons_zero, List.set_cons_succ]
  refine det_call _ _ _ [.slice (some ⟨A, 0, none⟩) 32 32] (.agg ((nq (leN l : Nat)).map bval).toArray) (by rfl) rfl Tryd.call9 rfl (fun w hw => hred w hw) ?_
  simp only [Act.put, List.setIfInBounds_toArray, List.set_cons_zero, List.set_cons_succ]
  refine det_load _ _ A (l.map bval) _ (by rfl) rfl rfl (fun w hw => ext_range H1.out hw) Tryd.underlying25 rfl HI.out ?_
  simp only [Act.put, List.setIfInBounds_toArray, List.set_cons_zero, List.set_cons_succ]
  refine det_eql _ _ _ _ _ _ 32 _ (nq (leN l : Nat)) l (lessB l) (by rfl) rfl (Or.inl ⟨rfl, lessB_eq l HL.out⟩) Tryd.underlying25 Tryd.underlying5 num_info num_cells num_guard rfl rfl (nq_length _) HL.out ?_
  simp only [Act.put, List.setIfInBounds_toArray, List.set_cons_zero, List.set_cons_succ]
  refine det_assign _ (.bool (lessB l)) (by rfl) rfl rfl ?_
  simp only [Act.put, List.setIfInBounds_toArray, List.set_cons_zero, List.set_cons_succ]
  refine det_nil (fun w9 hw9 => ?_)
  go_wp2_with fail
  go_ret
  exact ⟨rfl, HE.out.trans hw9⟩

set_option maxRecDepth 100000 in
set_option maxHeartbeats 4000000 in
theorem Add_num (l m : List UInt8) (w : World) (hl : l.length = 32) (hm : m.length = 32) (hG : GlobT w) :
    Calls Tryd.prog 12 #[.agg (l.map bval).toArray, .agg (m.map bval).toArray] w fun e w' => e = .returned (.agg ((nq ((leN l : Nat) + (leN m : Nat))).map bval).toArray) ∧ Below w.heap.size w w' := by
  have HSM := Lib.hid (leN_summ l m hl hm)
  have HL := Lib.hid hl
  have HM := Lib.hid hm
  have HG := Lib.hid hG
  have HIl : Hid ((Tryd.prog.info? 25).map (·.size) = some (l.map bval).length) := Lib.hid (num_size hl)
  have HIm : Hid ((Tryd.prog.info? 25).map (·.size) = some (m.map bval).length) := Lib.hid (num_size hm)
  have HCX := Lib.hid (limF_can l (by omega))
  have HCY := Lib.hid (limF_can m (by omega))
  have HB := Lib.hid (boxes3 w (l.map bval) (m.map bval) (ints .u8 (List.replicate 32 0)) 25 25 25)
  clear hl hm hG
  go_enter Tryd.func12, Tryd.ntmps12
  go_wp2_with fail
  change Code.wp _ _ _ _ (((w.alloc (.cells (l.map bval).toArray 25)).alloc (.cells (m.map bval).toArray 25)).alloc (.cells (ints .u8 (List.replicate 32 0)).toArray 25))
  generalize ((w.alloc (.cells (l.map bval).toArray 25)).alloc (.cells (m.map bval).toArray 25)).alloc (.cells (ints .u8 (List.replicate 32 0)).toArray 25) = w0 at *
  obtain ⟨h1, h2, h3, hE⟩ := HB.out
  obtain ⟨A, hA⟩ : ∃ A, A = w.heap.size := ⟨_, rfl⟩
  rw [← hA] at h1 h2 h3 ⊢
  have hA2 : w.heap.size ≤ A := by omega
  have hA3 : A + 1 + 1 < w0.heap.size := h3.lt
  have H1 := Lib.hid h1
  have H2 := Lib.hid h2
  have H3 := Lib.hid h3
  have HE : Hid (Ext w w0) := Lib.hid hE
  clear h1 h2 h3 hE HB hA
  refine wp_region_from 4 4 6 rfl (by kernel_rfl) (by kernel_rfl) (fun d v c a w h => by cases d <;> exact h) (by kernel_rfl) ?_
  refine det_val (.slice (some ⟨A, 0, none⟩) 32 32) (by rfl) (fun w hw => by go_simp) ?_
  simp only [Act.put, List.setIfInBounds_toArray, List.set_cons_zero, List.set_cons_succ]
  refine det_call _ _ _ [.slice (some ⟨A, 0, none⟩) 32 32] (.agg (ints .i64 (limF l)).toArray) (by rfl) rfl Tryd.call18 rfl (fun w hw => lim_blk l (ext_blk H1.out hw) HL.out) ?_
  simp only [Act.put, List.setIfInBounds_toArray, List.set_cons_zero, List.set_cons_succ]
  refine det_val (.slice (some ⟨(A + 1), 0, none⟩) 32 32) (by rfl) (fun w hw => by go_simp) ?_
  simp only [Act.put, List.setIfInBounds_toArray, List.set_cons_zero, List.set_cons_succ]
  refine det_call _ _ _ [.slice (some ⟨(A + 1), 0, none⟩) 32 32] (.agg (ints .i64 (limF m)).toArray) (by rfl) rfl Tryd.call18 rfl (fun w hw => lim_blk m (ext_blk H2.out hw) HM.out) ?_
  simp only [Act.put, List.setIfInBounds_toArray, List.set_cons_zero, List.set_cons_succ]
  refine det_nil (end_var2 (k := 4) 36 5 6 (.tmp 9) (.tmp 11) (ints .i64 (List.replicate 19 0)) (ints .i64 (limF l)) (ints .i64 (limF m)) rfl rfl rfl rfl (by kernel_rfl) (by kernel_rfl) (by kernel_rfl) (by kernel_rfl) (by kernel_rfl) (by kernel_rfl) (by kernel_rfl) (by kernel_rfl) (by kernel_rfl) (by kernel_rfl) rfl rfl rfl rfl rfl rfl rfl rfl (by decide) (fun w => by rw [Tryd.zeroValue36]; rfl) rfl rfl rfl rfl (by simp) (by simp) (fun p q => rfl) (fun p q => rfl) (by rw [ints_length, ints_length, limF_length]; rfl) (by rw [ints_length, ints_length, limF_length]; rfl) (by rw [ints_length, limF_length]; exact Tryd.arr36) (by rw [ints_length, limF_length]; exact Tryd.arr36) (ints_one _ _) (ints_one _ _) ?_)
  intro p q w1 hpq hp hq hb1 hb2 he1
  have HPQ := Lib.hid hpq
  have H3 := Lib.hid (ext_blk H3.out he1)
  have HE := Lib.hid (HE.out.trans he1)
  have HX := Lib.hid hb1
  have HY := Lib.hid hb2
  have hpA : A + 1 + 1 < p := by omega
  have hqA : A + 1 + 1 < q := by omega
  clear hpq hb1 hb2 he1 H1 H2
  clear hp hq
  go_wp2_with fail
  have HXL := Lib.hid HCX.out.len
  have HYL := Lib.hid HCY.out.len
  have HXR := Lib.hid HCX.out.range
  have HYR := Lib.hid HCY.out.range
  have HXV := Lib.hid HCX.out.val
  have HYV := Lib.hid HCY.out.val
  generalize limF l = x at *
  generalize limF m = y at *
  go_loopw [12] (fun i wr => ∃ (k : Nat), k ≤ 19 ∧ i = .int .i64 (k : Int) ∧ Blk wr p (ints .i64 (aLim x y k)) 36 ∧ Blk wr q (ints .i64 y) 36 ∧ Blk wr (A + 1 + 1) (ints .u8 (List.replicate 32 0)) 25 ∧ Ext w wr) (fun i _ => 19 - (intOf i).toNat)
  case atStart => exact ⟨0, by omega, rfl, HX.out, HY.out, H3.out, HE.out⟩
  case round =>
    clear HX HY H3 HE
    obtain ⟨k, hk, rfl, hb1, hb2, hb3, hbel⟩ := hrel
    have i0' : (0 : Int) ≤ (k : Int) := Int.natCast_nonneg _
    have hlen := aLim_length x y k
    rw [HXL.out] at hlen
    have hyl := HYL.out
    by_cases hlt : k < 19
    · have i1 : (k : Int) < 19 := by omega
      have e1 := hb1.cell k
      rw [ints_get (by omega)] at e1
      have e2 := hb2.cell k
      rw [ints_get (by omega)] at e2
      have f1 := hb1.free k
      have q1 := HXR.out k
      rw [← aLim_far x y k k (Nat.le_refl _)] at q1
      have q2 := HYR.out k
      have hst : aLim x y (k + 1) = (aLim x y k).set k ((aLim x y k).getD k 0 + y.getD k 0) := rfl
      have HST := Lib.hid hst
      generalize (aLim x y k).getD k 0 = a at *
      generalize y.getD k 0 = b at *
      have HX := Lib.hid hb1
      have HY := Lib.hid hb2
      have H3 := Lib.hid hb3
      have HE := Lib.hid hbel
      clear hst hb1 hb2 hb3 hbel hlen hyl
      go_wp2_with fail
      go_region
      go_wp2_with fail
      go_roundw
      case rel =>
        refine ⟨k + 1, by omega, by go_num, ?_, (HY.out.far (by simpa using HPQ.out) _).drewN 1, (H3.out.far (by simp; omega) _).drewN 1, (Below.setCell HE.out (by simp; omega) _).drew⟩
        rw [HST.out, ← ints_set]
        exact (HX.out.set k _).drewN 1
      case measure => simp [intOf]; omega
    · have hk' : k = 19 := by omega
      subst hk'
      have hxl := HXL.out
      have HNM := Lib.hid (fun w hw => numOf_any (aLim x y 19) ((leN l : Nat) + (leN m : Nat)) 1073741824 w hw hlen (by omega) (by omega) (fun j hj => by
        rw [aLim_in x y 19 j (by omega) hj]
        have := HXR.out j
        have := HYR.out j
        omega) (by rw [aLim_val 268435456 x y 19 (by omega) (by omega), HXV.out, ← hyl, List.take_length, HYV.out]) (by omega) HSM.out)
      have hi1 : Hid ((Tryd.prog.info? 36).map (·.size) = some (ints .i64 (aLim x y 19)).length) := Lib.hid (by rw [ints_length, hlen]; exact Tryd.arr36)
      have HX := Lib.hid hb1
      have H3 := Lib.hid hb3
      have HE := Lib.hid hbel
      clear hb1 hb2 hb3 hbel hlen hyl hxl
      go_wp2_with (refine wpList_load_blk rfl _ _ rfl p rfl _ _ _ _ HX.out Tryd.underlying36 hi1.out ?_)
      refine (HNM.out _ (HG.out.ext HE.out)).mono ?_
      rintro e w5 ⟨rfl, hb5⟩
      have H3 := Lib.hid (ext_blk H3.out hb5)
      have HE := Lib.hid (HE.out.trans hb5)
      have hi2 : Hid ((Tryd.prog.info? 25).map (·.size) = some ((nq ((leN l : Nat) + (leN m : Nat))).map bval).length) := Lib.hid (num_size (nq_length _))
      have hl2 : Hid (((nq ((leN l : Nat) + (leN m : Nat))).map bval).length = (ints .u8 (List.replicate 32 0)).length) := Lib.hid (by rw [List.length_map, nq_length]; rfl)
      clear hb5 HNM
      go_wp2_with (refine wpList_store_blk rfl _ _ _ rfl (A + 1 + 1) _ rfl rfl _ _ H3.out hl2.out hi2.out (bval_one _) ?_; intro w7 hb7 hg7)
      exact bodyPost_ret (v := .agg ((nq ((leN l : Nat) + (leN m : Nat))).map bval).toArray) (result_row (by rfl) _ (A + 1 + 1) _ _ _ (by rfl) hb7 Tryd.underlying25 rfl hi2.out) rfl ⟨rfl, ext_grown HE.out hg7 (by omega)⟩

end Go.Proofs.YtoebokeehhfboaaDoor
