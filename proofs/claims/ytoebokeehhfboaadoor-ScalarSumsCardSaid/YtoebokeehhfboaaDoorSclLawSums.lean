/- The walk of ScalarSums. Each theorem names its own conditions. -/
import Derived.Test.YtoebokeehhfboaaDoorSclLaw0
import Derived.Test.YtoebokeehhfboaaDoorRefMulQ
import Derived.Test.YtoebokeehhfboaaDoorRefLessQ
import Derived.Test.YtoebokeehhfboaaDoorDetBool
namespace Go.Proofs.YtoebokeehhfboaaDoor
open Go.RowKit
set_option linter.unusedVariables false
set_option linter.unusedSimpArgs false

set_option maxRecDepth 100000 in
set_option maxHeartbeats 8000000 in
theorem scalarSums_any (l m : List UInt8) (w : World) (hl : l.length = 32) (hm : m.length = 32) (hG : GlobT w) (hO : GlobO w) :
    Calls Tryd.prog 4 #[.agg (l.map bval).toArray, .agg (m.map bval).toArray] w fun e w' => e = .returned (.bool true) ∧ Below w.heap.size w w' := by
  have HGO := Lib.hid hO
  clear hO
  have HGT := Lib.hid hG
  clear hG
  have HLl := Lib.hid hl
  have HIl : Hid ((Tryd.prog.info? 25).map (·.size) = some (l.map bval).length) := Lib.hid (num_size hl)
  have HLm := Lib.hid hm
  have HIm : Hid ((Tryd.prog.info? 25).map (·.size) = some (m.map bval).length) := Lib.hid (num_size hm)
  have HB := Lib.hid (boxes2 w (l.map bval) (m.map bval) 25 25)
  clear hl hm
  go_enter Tryd.func4, Tryd.ntmps4
  go_wp2_with fail
  change Calls _ _ _ ((w.alloc (.cells (l.map bval).toArray 25)).alloc (.cells (m.map bval).toArray 25)) _
  generalize (w.alloc (.cells (l.map bval).toArray 25)).alloc (.cells (m.map bval).toArray 25) = w0 at *
  obtain ⟨h1, h2, hE⟩ := HB.out
  obtain ⟨A, hA⟩ : ∃ A, A = w.heap.size := ⟨_, rfl⟩
  rw [← hA] at h1 h2 ⊢
  have H1 := Lib.hid h1
  have H2 := Lib.hid h2
  have HE : Hid (Ext w w0) := Lib.hid hE
  clear h1 h2 hE HB hA
  refine (alive_any _ (HGT.out.ext HE.out)).mono ?_
  rintro e wa ⟨rfl, hb⟩
  have H1 := Lib.hid (ext_blk H1.out hb)
  have H2 := Lib.hid (ext_blk H2.out hb)
  have HE := Lib.hid (HE.out.trans hb)
  clear hb
  go_wp2_with fail
  refine wp_region_all (by kernel_rfl) (by kernel_rfl) ?_
  refine det_move _ (.bool true) (by rfl) rfl rfl ?_
  simp only [Act.put, List.setIfInBounds_toArray, List.set_cons_zero, List.set_cons_succ]
  refine det_move _ (.bool true) (by rfl) rfl rfl ?_
  simp only [Act.put, List.setIfInBounds_toArray, List.set_cons_zero, List.set_cons_succ]
  refine det_load _ _ A (l.map bval) _ (by rfl) rfl rfl (fun w hw => ext_range H1.out hw) Tryd.underlying25 rfl HIl.out ?_
  simp only [Act.put, List.setIfInBounds_toArray, List.set_cons_zero, List.set_cons_succ]
  refine det_load _ _ (A + 1) (m.map bval) _ (by rfl) rfl rfl (fun w hw => ext_range H2.out hw) Tryd.underlying25 rfl HIm.out ?_
  simp only [Act.put, List.setIfInBounds_toArray, List.set_cons_zero, List.set_cons_succ]
  refine det_call _ _ _ [.agg (l.map bval).toArray, .agg (m.map bval).toArray] (.agg ((nq (((leN l : Nat) : Int) + ((leN m : Nat) : Int))).map bval).toArray) (by rfl) rfl Tryd.call12 rfl (fun w hw => Add_num l m w HLl.out HLm.out (HGT.out.ext (HE.out.trans hw))) ?_
  simp only [Act.put, List.setIfInBounds_toArray, List.set_cons_zero, List.set_cons_succ]
  refine det_load _ _ A (l.map bval) _ (by rfl) rfl rfl (fun w hw => ext_range H1.out hw) Tryd.underlying25 rfl HIl.out ?_
  simp only [Act.put, List.setIfInBounds_toArray, List.set_cons_zero, List.set_cons_succ]
  refine det_load _ _ (A + 1) (m.map bval) _ (by rfl) rfl rfl (fun w hw => ext_range H2.out hw) Tryd.underlying25 rfl HIm.out ?_
  simp only [Act.put, List.setIfInBounds_toArray, List.set_cons_zero, List.set_cons_succ]
  refine det_call _ _ _ [.agg (l.map bval).toArray, .agg (m.map bval).toArray] (.agg ((nq (((leN l : Nat) : Int) + ((leN m : Nat) : Int))).map bval).toArray) (by rfl) rfl Tryd.call13 rfl (fun w hw => rAddQ_num l m w HLl.out HLm.out (HGO.out.ext (HE.out.trans hw))) ?_
  simp only [Act.put, List.setIfInBounds_toArray, List.set_cons_zero, List.set_cons_succ]
  refine det_eql _ _ _ _ _ _ 32 _ (nq (((leN l : Nat) : Int) + ((leN m : Nat) : Int))) (nq (((leN l : Nat) : Int) + ((leN m : Nat) : Int))) true (by rfl) rfl (Or.inl ⟨rfl, decide_eq_true rfl⟩) Tryd.underlying25 Tryd.underlying5 num_info num_cells num_guard rfl rfl (nq_length _) (nq_length _) ?_
  simp only [Act.put, List.setIfInBounds_toArray, List.set_cons_zero, List.set_cons_succ]
  refine det_pick _ _ _ true (.bool true) (by rfl) rfl rfl rfl ?_
  simp only [Act.put, List.setIfInBounds_toArray, List.set_cons_zero, List.set_cons_succ]
  refine det_move _ (.bool true) (by rfl) rfl rfl ?_
  simp only [Act.put, List.setIfInBounds_toArray, List.set_cons_zero, List.set_cons_succ]
  refine det_load _ _ A (l.map bval) _ (by rfl) rfl rfl (fun w hw => ext_range H1.out hw) Tryd.underlying25 rfl HIl.out ?_
  simp only [Act.put, List.setIfInBounds_toArray, List.set_cons_zero, List.set_cons_succ]
  refine det_load _ _ (A + 1) (m.map bval) _ (by rfl) rfl rfl (fun w hw => ext_range H2.out hw) Tryd.underlying25 rfl HIm.out ?_
  simp only [Act.put, List.setIfInBounds_toArray, List.set_cons_zero, List.set_cons_succ]
  refine det_call _ _ _ [.agg (l.map bval).toArray, .agg (m.map bval).toArray] (.agg ((nq (((leN l : Nat) : Int) * ((leN m : Nat) : Int))).map bval).toArray) (by rfl) rfl Tryd.call14 rfl (fun w hw => Mul_num l m w HLl.out HLm.out (HGT.out.ext (HE.out.trans hw))) ?_
  simp only [Act.put, List.setIfInBounds_toArray, List.set_cons_zero, List.set_cons_succ]
  refine det_load _ _ A (l.map bval) _ (by rfl) rfl rfl (fun w hw => ext_range H1.out hw) Tryd.underlying25 rfl HIl.out ?_
  simp only [Act.put, List.setIfInBounds_toArray, List.set_cons_zero, List.set_cons_succ]
  refine det_load _ _ (A + 1) (m.map bval) _ (by rfl) rfl rfl (fun w hw => ext_range H2.out hw) Tryd.underlying25 rfl HIm.out ?_
  simp only [Act.put, List.setIfInBounds_toArray, List.set_cons_zero, List.set_cons_succ]
  refine det_call _ _ _ [.agg (l.map bval).toArray, .agg (m.map bval).toArray] (.agg ((nq (((leN l : Nat) : Int) * ((leN m : Nat) : Int))).map bval).toArray) (by rfl) rfl Tryd.call15 rfl (fun w hw => rMulQ_num l m w HLl.out HLm.out (HGO.out.ext (HE.out.trans hw))) ?_
  simp only [Act.put, List.setIfInBounds_toArray, List.set_cons_zero, List.set_cons_succ]
  refine det_eql _ _ _ _ _ _ 32 _ (nq (((leN l : Nat) : Int) * ((leN m : Nat) : Int))) (nq (((leN l : Nat) : Int) * ((leN m : Nat) : Int))) true (by rfl) rfl (Or.inl ⟨rfl, decide_eq_true rfl⟩) Tryd.underlying25 Tryd.underlying5 num_info num_cells num_guard rfl rfl (nq_length _) (nq_length _) ?_
  simp only [Act.put, List.setIfInBounds_toArray, List.set_cons_zero, List.set_cons_succ]
  refine det_pick _ _ _ true (.bool true) (by rfl) rfl rfl rfl ?_
  simp only [Act.put, List.setIfInBounds_toArray, List.set_cons_zero, List.set_cons_succ]
  refine det_move _ (.bool true) (by rfl) rfl rfl ?_
  simp only [Act.put, List.setIfInBounds_toArray, List.set_cons_zero, List.set_cons_succ]
  refine det_load _ _ A (l.map bval) _ (by rfl) rfl rfl (fun w hw => ext_range H1.out hw) Tryd.underlying25 rfl HIl.out ?_
  simp only [Act.put, List.setIfInBounds_toArray, List.set_cons_zero, List.set_cons_succ]
  refine det_call _ _ _ [.agg (l.map bval).toArray] (.bool (lessB l)) (by rfl) rfl Tryd.call11 rfl (fun w hw => Less_num l w HLl.out (HGT.out.ext (HE.out.trans hw))) ?_
  simp only [Act.put, List.setIfInBounds_toArray, List.set_cons_zero, List.set_cons_succ]
  refine det_load _ _ A (l.map bval) _ (by rfl) rfl rfl (fun w hw => ext_range H1.out hw) Tryd.underlying25 rfl HIl.out ?_
  simp only [Act.put, List.setIfInBounds_toArray, List.set_cons_zero, List.set_cons_succ]
  refine det_call _ _ _ [.agg (l.map bval).toArray] (.bool (lessB l)) (by rfl) rfl Tryd.call16 rfl (fun w hw => rLess_num l w HLl.out (HGO.out.ext (HE.out.trans hw))) ?_
  simp only [Act.put, List.setIfInBounds_toArray, List.set_cons_zero, List.set_cons_succ]
  refine det_eqb (lessB l) Tryd.underlying4 (by rfl) rfl rfl rfl ?_
  simp only [Act.put, List.setIfInBounds_toArray, List.set_cons_zero, List.set_cons_succ]
  refine det_pick _ _ _ true (.bool true) (by rfl) rfl rfl rfl ?_
  simp only [Act.put, List.setIfInBounds_toArray, List.set_cons_zero, List.set_cons_succ]
  refine det_assign _ (.bool true) (by rfl) rfl rfl ?_
  simp only [Act.put, List.setIfInBounds_toArray, List.set_cons_zero, List.set_cons_succ]
  refine det_nil (fun w9 hw9 => ?_)
  go_wp2_with fail
  go_ret
  exact ⟨rfl, HE.out.trans hw9⟩

end Go.Proofs.YtoebokeehhfboaaDoor
