/- The walks of the code's Canon and Mul. Each theorem names its own conditions. -/
import Derived.Test.YtmiapjmdolecbaaDoorFldOut
import Derived.Test.YtmiapjmdolecbaaDoorFldTimes
namespace Go.Proofs.YtmiapjmdolecbaaDoor
open Go.RowKit
set_option linter.unusedVariables false
set_option linter.unusedSimpArgs false

def zero32 : List Value := ints .u8 (List.replicate 32 0)
theorem nb_length (x : Int) : (nb x).length = 32 := bytesN_length _ _
theorem nb_len (x : Int) : ((nb x).map bval).length = zero32.length := by rw [List.length_map, nb_length]; rfl
theorem nb_size (x : Int) : (Tryd.prog.info? 23).map (·.size) = some ((nb x).map bval).length := by rw [List.length_map, nb_length]; exact Tryd.arr23
theorem nb_cong {x y : Int} (h : Cong x y) : nb x = nb y := by unfold nb; rw [cong_iff.1 h]
theorem numP_cong {x y : Int} (h : Cong x y) : numP x = numP y := by
  show Value.agg ((nb x).map bval).toArray = Value.agg ((nb y).map bval).toArray
  rw [nb_cong h]
theorem num_info : Tryd.prog.info? 5 = some (Tryd.prog.info? 5).get! := by kernel_rfl
theorem num_cells : Tryd.prog.cellsOf 5 = 1 := by kernel_rfl
theorem num_guard : Tryd.prog.eqGuardType Tryd.prog.depth 23 = false := by kernel_rfl

set_option maxHeartbeats 4000000 in
theorem Canon_num (l : List UInt8) (w : World) (hl : l.length = 32) :
    Calls Tryd.prog 8 #[.agg (l.map bval).toArray] w fun e w' => e = .returned (numP (leN l)) ∧ Below w.heap.size w w' := by
  have HV := Lib.hid (numP_cong (limbsL_val l hl))
  have HLl := Lib.hid hl
  have HIl : Hid ((Tryd.prog.info? 23).map (·.size) = some (l.map bval).length) := Lib.hid (by rw [List.length_map, hl]; exact Tryd.arr23)
  have HB := Lib.hid (boxes2 w (l.map bval) zero32 23 23)
  clear hl
  go_enter Tryd.func8, Tryd.ntmps8
  go_wp2_with (refine wpList_load_blk rfl _ _ rfl w.heap.size rfl _ _ _ _ HB.out.1 Tryd.underlying23 HIl.out ?_)
  change Calls _ _ _ ((w.alloc (.cells (l.map bval).toArray 23)).alloc (.cells zero32.toArray 23)) _
  generalize (w.alloc (.cells (l.map bval).toArray 23)).alloc (.cells zero32.toArray 23) = w0 at *
  obtain ⟨h1, h2, h4⟩ := HB.out
  obtain ⟨A, hA⟩ : ∃ A, A = w.heap.size := ⟨_, rfl⟩
  rw [← hA] at h1 h2 ⊢
  have hA2 : w.heap.size ≤ A := by omega
  have H1 := Lib.hid h1
  have HR := Lib.hid h2
  have HE : Hid (Ext w w0) := Lib.hid h4
  clear h1 h2 h4 HB hA
  refine (limbsOf_any l HLl.out _).mono ?_
  rintro e w1 ⟨rfl, hb1⟩
  have HR := Lib.hid (ext_blk HR.out hb1)
  have HE := Lib.hid (HE.out.trans hb1)
  clear hb1
  go_wp2_with fail
  refine (numOf_any (limbsL l) ((limbsL_lt l).mono (by omega)) _).mono ?_
  rintro e w2 ⟨rfl, hb1⟩
  have HR := Lib.hid (ext_blk HR.out hb1)
  have HE := Lib.hid (HE.out.trans hb1)
  clear hb1
  rw [HV.out]
  go_wp2_with (refine wpList_store_blk rfl _ _ _ rfl (A + 1) ((nb (leN l)).map bval) rfl rfl _ _ HR.out (nb_len _) (nb_size _) (bval_one _) ?_; intro w5 hb5 hg5)
  exact bodyPost_ret (v := numP (leN l)) (result_row (by rfl) _ (A + 1) _ _ _ (by rfl) hb5 Tryd.underlying23 rfl (nb_size _)) rfl ⟨rfl, ext_grown HE.out hg5 (by omega)⟩

set_option maxRecDepth 100000 in
set_option maxHeartbeats 4000000 in
theorem Mul_num (l m : List UInt8) (w : World) (hl : l.length = 32) (hm : m.length = 32) :
    Calls Tryd.prog 7 #[.agg (l.map bval).toArray, .agg (m.map bval).toArray] w fun e w' => e = .returned (numP ((leN l : Int) * leN m)) ∧ Below w.heap.size w w' := by
  have HV := Lib.hid (numP_cong ((timesL_val (limbsL l) (limbsL m)).trans ((limbsL_val l hl).mul (limbsL_val m hm))))
  have HLl := Lib.hid hl
  have HLm := Lib.hid hm
  have HIl : Hid ((Tryd.prog.info? 23).map (·.size) = some (l.map bval).length) := Lib.hid (by rw [List.length_map, hl]; exact Tryd.arr23)
  have HIm : Hid ((Tryd.prog.info? 23).map (·.size) = some (m.map bval).length) := Lib.hid (by rw [List.length_map, hm]; exact Tryd.arr23)
  have HB := Lib.hid (boxes3 w (l.map bval) (m.map bval) zero32 23 23 23)
  clear hl hm
  go_enter Tryd.func7, Tryd.ntmps7
  go_wp2_with fail
  change Code.wp _ _ _ _ (((w.alloc (.cells (l.map bval).toArray 23)).alloc (.cells (m.map bval).toArray 23)).alloc (.cells zero32.toArray 23))
  generalize ((w.alloc (.cells (l.map bval).toArray 23)).alloc (.cells (m.map bval).toArray 23)).alloc (.cells zero32.toArray 23) = w0 at *
  obtain ⟨h1, h2, h3, h4⟩ := HB.out
  obtain ⟨A, hA⟩ : ∃ A, A = w.heap.size := ⟨_, rfl⟩
  rw [← hA] at h1 h2 h3 ⊢
  have hA2 : w.heap.size ≤ A := by omega
  have H1 := Lib.hid h1
  have H2 := Lib.hid h2
  have H3 := Lib.hid h3
  have HE : Hid (Ext w w0) := Lib.hid h4
  clear h1 h2 h3 h4 HB hA
  refine wp_region_from 6 1 6 rfl (by kernel_rfl) (by kernel_rfl) (fun d v c a w h => by cases d <;> exact h) (by kernel_rfl) ?_
  refine det_load _ _ A (l.map bval) _ (by rfl) rfl rfl (fun w hw => ext_range H1.out hw) Tryd.underlying23 rfl HIl.out ?_
  simp only [Act.put, List.setIfInBounds_toArray, List.set_cons_zero, List.set_cons_succ]
  refine det_call _ _ _ [.agg (l.map bval).toArray] ((limbsL l).v) (by rfl) rfl Tryd.call12 rfl (fun w hw => limbsOf_any l HLl.out w) ?_
  simp only [Act.put, List.setIfInBounds_toArray, List.set_cons_zero, List.set_cons_succ]
  refine det_load _ _ (A + 1) (m.map bval) _ (by rfl) rfl rfl (fun w hw => ext_range H2.out hw) Tryd.underlying23 rfl HIm.out ?_
  simp only [Act.put, List.setIfInBounds_toArray, List.set_cons_zero, List.set_cons_succ]
  refine det_call _ _ _ [.agg (m.map bval).toArray] ((limbsL m).v) (by rfl) rfl Tryd.call12 rfl (fun w hw => limbsOf_any m HLm.out w) ?_
  simp only [Act.put, List.setIfInBounds_toArray, List.set_cons_zero, List.set_cons_succ]
  refine det_call _ _ _ [(limbsL l).v, (limbsL m).v] ((timesL (limbsL l) (limbsL m)).v) (by rfl) rfl Tryd.call16 rfl (fun w hw => times_any _ _ (limbsL_lt l) (limbsL_lt m) w) ?_
  simp only [Act.put, List.setIfInBounds_toArray, List.set_cons_zero, List.set_cons_succ]
  refine det_call _ _ _ [(timesL (limbsL l) (limbsL m)).v] (numP ((timesL (limbsL l) (limbsL m)).val : Nat)) (by rfl) rfl Tryd.call13 rfl (fun w hw => numOf_any _ ((timesL_lt (limbsL_lt l) (limbsL_lt m)).mono (by omega)) w) ?_
  simp only [Act.put, List.setIfInBounds_toArray, List.set_cons_zero, List.set_cons_succ]
  rw [HV.out]
  refine det_nil (end_set (k := 6) _ _ _ _ (A + 1 + 1) ((nb ((leN l : Int) * leN m)).map bval) zero32 rfl (by kernel_rfl) (by kernel_rfl) (by kernel_rfl) rfl rfl rfl rfl H3.out (nb_len _) (nb_size _) (bval_one _) (fun w8 hb8 hg8 => ?_))
  simp only [Act.put]
  go_wp2_with fail
  exact bodyPost_ret (v := numP ((leN l : Int) * leN m)) (result_row (by rfl) _ (A + 1 + 1) _ _ _ (by rfl) hb8 Tryd.underlying23 rfl (nb_size _)) rfl ⟨rfl, ext_grown HE.out hg8 (by omega)⟩

end Go.Proofs.YtmiapjmdolecbaaDoor
