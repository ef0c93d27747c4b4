/- The walk of FieldPicks. Each theorem names its own conditions. -/
import Derived.Test.YtmiapjmdolecbaaFldLaw0
import Derived.Test.YtmiapjmdolecbaaDetEnds
import Derived.Test.YtmiapjmdolecbaaFldTop4
namespace Go.Proofs.Ytmiapjmdolecbaa
open Go.RowKit
set_option linter.unusedVariables false
set_option linter.unusedSimpArgs false

set_option maxRecDepth 100000 in
set_option maxHeartbeats 8000000 in
theorem fieldPicks_false (l m : List UInt8) (w : World) (hl : l.length = 32) (hm : m.length = 32) :
    Calls Try.prog 6 #[.agg (l.map bval).toArray, .agg (m.map bval).toArray, .bool false] w fun e w' => e = .returned (.bool true) ∧ Below w.heap.size w w' := by
  have HLl := Lib.hid hl
  have HIl : Hid ((Try.prog.info? 23).map (·.size) = some (l.map bval).length) := Lib.hid (by rw [List.length_map, hl]; exact Try.arr23)
  have HLm := Lib.hid hm
  have HIm : Hid ((Try.prog.info? 23).map (·.size) = some (m.map bval).length) := Lib.hid (by rw [List.length_map, hm]; exact Try.arr23)
  have HB := Lib.hid (boxes2 w (l.map bval) (m.map bval) 23 23)
  clear hl hm
  go_enter Try.func6, Try.ntmps6
  go_wp2_with fail
  change Calls _ _ _ ((w.alloc (.cells (l.map bval).toArray 23)).alloc (.cells (m.map bval).toArray 23)) _
  generalize (w.alloc (.cells (l.map bval).toArray 23)).alloc (.cells (m.map bval).toArray 23) = w0 at *
  obtain ⟨h1, h2, hE⟩ := HB.out
  obtain ⟨A, hA⟩ : ∃ A, A = w.heap.size := ⟨_, rfl⟩
  rw [← hA] at h1 h2 ⊢
  have hA2 : w.heap.size ≤ A := by omega
  have H1 := Lib.hid h1
  have H2 := Lib.hid h2
  have HE : Hid (Ext w w0) := Lib.hid hE
  clear h1 h2 hE HB hA
  refine (alive_any _).mono ?_
  rintro e wa ⟨rfl, hb⟩
  have H1 := Lib.hid (ext_blk H1.out hb)
  have H2 := Lib.hid (ext_blk H2.out hb)
  have HE := Lib.hid (HE.out.trans hb)
  clear hb
  have hDA : A + 1 < wa.heap.size := H2.out.lt
  have HD := Lib.hid (Blk.made wa zero32 23)
  have HX := Lib.hid (Ext.alloc wa (.cells zero32.toArray 23))
  have HK1 := Lib.hid (ext_blk H1.out HX.out)
  have HK2 := Lib.hid (ext_blk H2.out HX.out)
  have HLE : Hid ((l.map bval).length = zero32.length) := Lib.hid (by rw [List.length_map, HLl.out]; rfl)
  have HLM : Hid ((m.map bval).length = (l.map bval).length) := Lib.hid (by rw [List.length_map, List.length_map, HLl.out, HLm.out])
  go_wp2_with (first | (refine wpList_load_blk rfl _ _ rfl A rfl _ _ _ _ H1.out Try.underlying23 HIl.out ?_) | (refine wpList_store_blk rfl _ _ _ rfl wa.heap.size (l.map bval) rfl rfl _ _ HD.out HLE.out HIl.out (bval_one _) ?_; intro w5 hb5 hg5; have k2 := HK2.out.grown hg5 (by simp; omega)))
  have H1 := Lib.hid (HK1.out.grown hg5 (by simp; omega))
  have H2 := Lib.hid k2
  have HE := Lib.hid (ext_grown (HE.out.trans HX.out) hg5 (by omega))
  have HD := Lib.hid hb5
  generalize wa.heap.size = D at *
  refine wp_region_from 10 0 10 rfl (by kernel_rfl) (by kernel_rfl) (fun d v c a w h => by cases d <;> exact h) (by kernel_rfl) ?_
  refine det_move _ (.bool true) (by rfl) rfl rfl ?_
  simp only [Act.put, List.setIfInBounds_toArray, List.set_cons_zero, List.set_cons_succ]
  refine det_move _ (.bool true) (by rfl) rfl rfl ?_
  simp only [Act.put, List.setIfInBounds_toArray, List.set_cons_zero, List.set_cons_succ]
  refine det_load _ _ A (l.map bval) _ (by rfl) rfl rfl (fun w hw => ext_range H1.out hw) Try.underlying23 rfl HIl.out ?_
  simp only [Act.put, List.setIfInBounds_toArray, List.set_cons_zero, List.set_cons_succ]
  refine det_load _ _ (A + 1) (m.map bval) _ (by rfl) rfl rfl (fun w hw => ext_range H2.out hw) Try.underlying23 rfl HIm.out ?_
  simp only [Act.put, List.setIfInBounds_toArray, List.set_cons_zero, List.set_cons_succ]
  refine det_move _ (.bool false) (by rfl) rfl rfl ?_
  simp only [Act.put, List.setIfInBounds_toArray, List.set_cons_zero, List.set_cons_succ]
  refine det_call _ _ _ [.agg (l.map bval).toArray, .agg (m.map bval).toArray, .bool false] (.agg (l.map bval).toArray) (by rfl) rfl Try.call24 rfl (fun w hw => Pick_false l m w HLl.out HLm.out) ?_
  simp only [Act.put, List.setIfInBounds_toArray, List.set_cons_zero, List.set_cons_succ]
  refine det_load _ _ D (l.map bval) _ (by rfl) rfl rfl (fun w hw => ext_range HD.out hw) Try.underlying23 rfl HIl.out ?_
  simp only [Act.put, List.setIfInBounds_toArray, List.set_cons_zero, List.set_cons_succ]
  refine det_eql _ _ _ _ _ _ 32 _ l l true (by rfl) rfl (Or.inl ⟨rfl, decide_eq_true rfl⟩) Try.underlying23 Try.underlying5 num_info num_cells num_guard rfl rfl HLl.out HLl.out ?_
  simp only [Act.put, List.setIfInBounds_toArray, List.set_cons_zero, List.set_cons_succ]
  refine det_pick _ _ _ true (.bool true) (by rfl) rfl rfl rfl ?_
  simp only [Act.put, List.setIfInBounds_toArray, List.set_cons_zero, List.set_cons_succ]
  refine det_assign _ (.bool true) (by rfl) rfl rfl ?_
  simp only [Act.put, List.setIfInBounds_toArray, List.set_cons_zero, List.set_cons_succ]
  refine det_nil (end_none (by kernel_rfl) (fun w9 hw9 => ?_))
  go_wp2_with fail
  go_ret
  exact ⟨rfl, HE.out.trans hw9⟩

set_option maxRecDepth 100000 in
set_option maxHeartbeats 8000000 in
theorem fieldPicks_true (l m : List UInt8) (w : World) (hl : l.length = 32) (hm : m.length = 32) :
    Calls Try.prog 6 #[.agg (l.map bval).toArray, .agg (m.map bval).toArray, .bool true] w fun e w' => e = .returned (.bool true) ∧ Below w.heap.size w w' := by
  have HLl := Lib.hid hl
  have HIl : Hid ((Try.prog.info? 23).map (·.size) = some (l.map bval).length) := Lib.hid (by rw [List.length_map, hl]; exact Try.arr23)
  have HLm := Lib.hid hm
  have HIm : Hid ((Try.prog.info? 23).map (·.size) = some (m.map bval).length) := Lib.hid (by rw [List.length_map, hm]; exact Try.arr23)
  have HB := Lib.hid (boxes2 w (l.map bval) (m.map bval) 23 23)
  clear hl hm
  go_enter Try.func6, Try.ntmps6
  go_wp2_with fail
  change Calls _ _ _ ((w.alloc (.cells (l.map bval).toArray 23)).alloc (.cells (m.map bval).toArray 23)) _
  generalize (w.alloc (.cells (l.map bval).toArray 23)).alloc (.cells (m.map bval).toArray 23) = w0 at *
  obtain ⟨h1, h2, hE⟩ := HB.out
  obtain ⟨A, hA⟩ : ∃ A, A = w.heap.size := ⟨_, rfl⟩
  rw [← hA] at h1 h2 ⊢
  have hA2 : w.heap.size ≤ A := by omega
  have H1 := Lib.hid h1
  have H2 := Lib.hid h2
  have HE : Hid (Ext w w0) := Lib.hid hE
  clear h1 h2 hE HB hA
  refine (alive_any _).mono ?_
  rintro e wa ⟨rfl, hb⟩
  have H1 := Lib.hid (ext_blk H1.out hb)
  have H2 := Lib.hid (ext_blk H2.out hb)
  have HE := Lib.hid (HE.out.trans hb)
  clear hb
  have hDA : A + 1 < wa.heap.size := H2.out.lt
  have HD := Lib.hid (Blk.made wa zero32 23)
  have HX := Lib.hid (Ext.alloc wa (.cells zero32.toArray 23))
  have HK1 := Lib.hid (ext_blk H1.out HX.out)
  have HK2 := Lib.hid (ext_blk H2.out HX.out)
  have HLE : Hid ((l.map bval).length = zero32.length) := Lib.hid (by rw [List.length_map, HLl.out]; rfl)
  have HLM : Hid ((m.map bval).length = (l.map bval).length) := Lib.hid (by rw [List.length_map, List.length_map, HLl.out, HLm.out])
  go_wp2_with (first | (refine wpList_load_blk rfl _ _ rfl A rfl _ _ _ _ H1.out Try.underlying23 HIl.out ?_) | (refine wpList_store_blk rfl _ _ _ rfl wa.heap.size (l.map bval) rfl rfl _ _ HD.out HLE.out HIl.out (bval_one _) ?_; intro w5 hb5 hg5; have k2 := HK2.out.grown hg5 (by simp; omega)) | (refine wpList_load_blk rfl _ _ rfl (A + 1) rfl _ _ _ _ k2 Try.underlying23 HIm.out ?_) | (refine wpList_store_blk rfl _ _ _ rfl wa.heap.size (m.map bval) rfl rfl _ _ hb5 HLM.out HIm.out (bval_one _) ?_; intro w6 hb6 hg6))
  have H1 := Lib.hid (HK1.out.grown hg5 (by simp; omega))
  have H2 := Lib.hid k2
  have HE := Lib.hid (ext_grown (HE.out.trans HX.out) hg5 (by omega))
  have H1 := Lib.hid (H1.out.grown hg6 (by simp; omega))
  have H2 := Lib.hid (H2.out.grown hg6 (by simp; omega))
  have HE := Lib.hid (ext_grown HE.out hg6 (by omega))
  have HD := Lib.hid hb6
  generalize wa.heap.size = D at *
  refine wp_region_from 10 0 10 rfl (by kernel_rfl) (by kernel_rfl) (fun d v c a w h => by cases d <;> exact h) (by kernel_rfl) ?_
  refine det_move _ (.bool true) (by rfl) rfl rfl ?_
  simp only [Act.put, List.setIfInBounds_toArray, List.set_cons_zero, List.set_cons_succ]
  refine det_move _ (.bool true) (by rfl) rfl rfl ?_
  simp only [Act.put, List.setIfInBounds_toArray, List.set_cons_zero, List.set_cons_succ]
  refine det_load _ _ A (l.map bval) _ (by rfl) rfl rfl (fun w hw => ext_range H1.out hw) Try.underlying23 rfl HIl.out ?_
  simp only [Act.put, List.setIfInBounds_toArray, List.set_cons_zero, List.set_cons_succ]
  refine det_load _ _ (A + 1) (m.map bval) _ (by rfl) rfl rfl (fun w hw => ext_range H2.out hw) Try.underlying23 rfl HIm.out ?_
  simp only [Act.put, List.setIfInBounds_toArray, List.set_cons_zero, List.set_cons_succ]
  refine det_move _ (.bool true) (by rfl) rfl rfl ?_
  simp only [Act.put, List.setIfInBounds_toArray, List.set_cons_zero, List.set_cons_succ]
  refine det_call _ _ _ [.agg (l.map bval).toArray, .agg (m.map bval).toArray, .bool true] (.agg (m.map bval).toArray) (by rfl) rfl Try.call24 rfl (fun w hw => Pick_true l m w HLl.out HLm.out) ?_
  simp only [Act.put, List.setIfInBounds_toArray, List.set_cons_zero, List.set_cons_succ]
  refine det_load _ _ D (m.map bval) _ (by rfl) rfl rfl (fun w hw => ext_range HD.out hw) Try.underlying23 rfl HIm.out ?_
  simp only [Act.put, List.setIfInBounds_toArray, List.set_cons_zero, List.set_cons_succ]
  refine det_eql _ _ _ _ _ _ 32 _ m m true (by rfl) rfl (Or.inl ⟨rfl, decide_eq_true rfl⟩) Try.underlying23 Try.underlying5 num_info num_cells num_guard rfl rfl HLm.out HLm.out ?_
  simp only [Act.put, List.setIfInBounds_toArray, List.set_cons_zero, List.set_cons_succ]
  refine det_pick _ _ _ true (.bool true) (by rfl) rfl rfl rfl ?_
  simp only [Act.put, List.setIfInBounds_toArray, List.set_cons_zero, List.set_cons_succ]
  refine det_assign _ (.bool true) (by rfl) rfl rfl ?_
  simp only [Act.put, List.setIfInBounds_toArray, List.set_cons_zero, List.set_cons_succ]
  refine det_nil (end_none (by kernel_rfl) (fun w9 hw9 => ?_))
  go_wp2_with fail
  go_ret
  exact ⟨rfl, HE.out.trans hw9⟩


end Go.Proofs.Ytmiapjmdolecbaa
