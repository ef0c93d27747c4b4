/- The walk of ScalarReduces. Each theorem names its own conditions. -/
import Derived.Test.YtoebokeehhfboaaDoorSclLaw0
import Derived.Test.YtoebokeehhfboaaDoorRefRedQ
import Derived.Test.YtoebokeehhfboaaDoorDetBool
namespace Go.Proofs.YtoebokeehhfboaaDoor
open Go.RowKit
set_option linter.unusedVariables false
set_option linter.unusedSimpArgs false

set_option maxRecDepth 100000 in
set_option maxHeartbeats 8000000 in
theorem scalarReduces_any (v : Value) (l : List UInt8) (w : World) (hv : Row1 w v (l.map bval)) (hG : GlobT w) (hO : GlobO w) :
    Calls Tryd.prog 3 #[v] w fun e w' => e = .returned (.bool true) ∧ Below w.heap.size w w' := by
  have HGO := Lib.hid hO
  have HGT := Lib.hid hG
  have HRW := Lib.hid hv
  obtain ⟨a, cap, hva, r1, r2, r3, r4⟩ := id hv
  rw [List.length_map] at hva r1
  unfold maxLen at r2
  have HVA := Lib.hid hva
  clear hO hG hv r3 r4 hva
  go_enter Tryd.func3, Tryd.ntmps3
  have HE : Hid (Ext w w) := Lib.hid (Ext.refl w)
  go_wp2_with fail
  refine (alive_any _ (HGT.out.ext HE.out)).mono ?_
  rintro e wa ⟨rfl, hb⟩
  have HE := Lib.hid (HE.out.trans hb)
  clear hb
  have hva := HVA.out
  subst hva
  by_cases hle : l.length ≤ 200
  · have hle2 : ((l.length : Int) ≤ 200) := by omega
    go_wp2_with fail
    refine (Reduce_num _ l _ (HRW.out.below HE.out) (HGT.out.ext HE.out)).mono ?_
    rintro e w1 ⟨rfl, hb⟩
    have HE := Lib.hid (HE.out.trans hb)
    clear hb
    have HLS : Hid (∀ w, GlobT w → Calls Tryd.prog 11 #[.agg ((nq (leN (l.take 64) : Nat)).map bval).toArray] w fun e w' => e = .returned (.bool true) ∧ Below w.heap.size w w') := Lib.hid (fun w hw => by
      have := Less_num (nq (leN (l.take 64) : Nat)) w (nq_length _) hw
      rwa [lessB_nq] at this)
    have HLr := Lib.hid (nq_length (leN (l.take 64) : Nat))
    have HIr : Hid ((Tryd.prog.info? 25).map (·.size) = some ((nq (leN (l.take 64) : Nat)).map bval).length) := Lib.hid (num_size (nq_length _))
    have HLE : Hid (((nq (leN (l.take 64) : Nat)).map bval).length = (ints .u8 (List.replicate 32 0)).length) := Lib.hid (by rw [List.length_map, nq_length]; rfl)
    have HD := Lib.hid (Blk.made w1 (ints .u8 (List.replicate 32 0)) 25)
    have HX := Lib.hid (HE.out.trans (Ext.alloc w1 (.cells (ints .u8 (List.replicate 32 0)).toArray 25)))
    have hDw : w.heap.size ≤ w1.heap.size := HE.out.size
    clear HE
    go_wp2_with (refine wpList_store_blk rfl _ _ _ rfl w1.heap.size _ rfl rfl _ _ HD.out HLE.out HIr.out (bval_one _) ?_; intro w2 hb2 hg2)
    have HE := Lib.hid (ext_grown HX.out hg2 hDw)
    have HD := Lib.hid hb2
    clear HX hb2 hg2
    generalize w1.heap.size = D at *
    refine wp_region_all (by kernel_rfl) (by kernel_rfl) ?_
    refine det_load _ _ D ((nq (leN (l.take 64) : Nat)).map bval) _ (by rfl) rfl rfl (fun w hw => ext_range HD.out hw) Tryd.underlying25 rfl HIr.out ?_
    simp only [Act.put, List.setIfInBounds_toArray, List.set_cons_zero, List.set_cons_succ]
    refine det_move _ (.slice a l.length cap) (by rfl) rfl rfl ?_
    simp only [Act.put, List.setIfInBounds_toArray, List.set_cons_zero, List.set_cons_succ]
    refine det_call _ _ _ [.slice a l.length cap] (.agg ((nq (leN (l.take 64) : Nat)).map bval).toArray) (by rfl) rfl Tryd.call10 rfl (fun w hw => rReduce_num _ l w (HRW.out.below (HE.out.trans hw)) (HGO.out.ext (HE.out.trans hw))) ?_
    simp only [Act.put, List.setIfInBounds_toArray, List.set_cons_zero, List.set_cons_succ]
    refine det_eql _ _ _ _ _ _ 32 _ (nq (leN (l.take 64) : Nat)) (nq (leN (l.take 64) : Nat)) true (by rfl) rfl (Or.inl ⟨rfl, decide_eq_true rfl⟩) Tryd.underlying25 Tryd.underlying5 num_info num_cells num_guard rfl rfl HLr.out (nq_length _) ?_
    simp only [Act.put, List.setIfInBounds_toArray, List.set_cons_zero, List.set_cons_succ]
    refine det_move _ (.bool true) (by rfl) rfl rfl ?_
    simp only [Act.put, List.setIfInBounds_toArray, List.set_cons_zero, List.set_cons_succ]
    refine det_load _ _ D ((nq (leN (l.take 64) : Nat)).map bval) _ (by rfl) rfl rfl (fun w hw => ext_range HD.out hw) Tryd.underlying25 rfl HIr.out ?_
    simp only [Act.put, List.setIfInBounds_toArray, List.set_cons_zero, List.set_cons_succ]
    refine det_call _ _ _ [.agg ((nq (leN (l.take 64) : Nat)).map bval).toArray] (.bool true) (by rfl) rfl Tryd.call11 rfl (fun w hw => HLS.out w (HGT.out.ext (HE.out.trans hw))) ?_
    simp only [Act.put, List.setIfInBounds_toArray, List.set_cons_zero, List.set_cons_succ]
    refine det_pick _ _ _ true (.bool true) (by rfl) rfl rfl rfl ?_
    simp only [Act.put, List.setIfInBounds_toArray, List.set_cons_zero, List.set_cons_succ]
    refine det_assign _ (.bool true) (by rfl) rfl rfl ?_
    simp only [Act.put, List.setIfInBounds_toArray, List.set_cons_zero, List.set_cons_succ]
    refine det_nil (fun w9 hw9 => ?_)
    go_wp2_with fail
    go_ret
    exact ⟨rfl, HE.out.trans hw9⟩
  · have hle2 : (200 : Int) < (l.length : Int) := by omega
    go_wp2_with fail
    go_ret
    exact ⟨rfl, HE.out⟩

end Go.Proofs.YtoebokeehhfboaaDoor
