/- The walk of FieldPowers. Each theorem names its own conditions. -/
import Derived.Test.YtmiapjmdolecbaaFldLaw0
import Derived.Test.YtmiapjmdolecbaaDetEnds
import Derived.Test.YtmiapjmdolecbaaRefInv
import Derived.Test.YtmiapjmdolecbaaFldTop5
import Derived.Test.YtmiapjmdolecbaaFldTop3
namespace Go.Proofs.Ytmiapjmdolecbaa
open Go.RowKit
set_option linter.unusedVariables false
set_option linter.unusedSimpArgs false

set_option maxRecDepth 100000 in
set_option maxHeartbeats 8000000 in
theorem fieldPowers_any (l m : List UInt8) (w : World) (hl : l.length = 32) (hm : m.length = 32) :
    Calls Try.prog 4 #[.agg (l.map bval).toArray, .agg (m.map bval).toArray] w fun e w' => e = .returned (.bool true) ∧ Below w.heap.size w w' := by
  have HLl := Lib.hid hl
  have HIl : Hid ((Try.prog.info? 23).map (·.size) = some (l.map bval).length) := Lib.hid (by rw [List.length_map, hl]; exact Try.arr23)
  have HLm := Lib.hid hm
  have HIm : Hid ((Try.prog.info? 23).map (·.size) = some (m.map bval).length) := Lib.hid (by rw [List.length_map, hm]; exact Try.arr23)
  have HB := Lib.hid (boxes2 w (l.map bval) (m.map bval) 23 23)
  clear hl hm
  go_enter Try.func4, Try.ntmps4
  go_wp2_with fail
  change Calls _ _ _ ((w.alloc (.cells (l.map bval).toArray 23)).alloc (.cells (m.map bval).toArray 23)) _
  generalize (w.alloc (.cells (l.map bval).toArray 23)).alloc (.cells (m.map bval).toArray 23) = w0 at *
  obtain ⟨h1, h2, hE⟩ := HB.out
  obtain ⟨A, hA⟩ : ∃ A, A = w.heap.size := ⟨_, rfl⟩
  rw [← hA] at h1 h2 ⊢
  have hA2 : w.heap.size ≤ A := by omega
  have H1 := Lib.hid h1
  have H2 := Lib.hid h2
  have HE : Hid (Ext w w0) := Lib.hid hE
  clear h1 h2 hE HB hA
  refine (alive_any _).mono ?_
  rintro e wa ⟨rfl, hb⟩
  have H1 := Lib.hid (ext_blk H1.out hb)
  have H2 := Lib.hid (ext_blk H2.out hb)
  have HE := Lib.hid (HE.out.trans hb)
  clear hb
  go_wp2_with fail
  refine wp_region_from 18 0 18 rfl (by kernel_rfl) (by kernel_rfl) (fun d v c a w h => by cases d <;> exact h) (by kernel_rfl) ?_
  refine det_move _ (.bool true) (by rfl) rfl rfl ?_
  simp only [Act.put, List.setIfInBounds_toArray, List.set_cons_zero, List.set_cons_succ]
  refine det_move _ (.bool true) (by rfl) rfl rfl ?_
  simp only [Act.put, List.setIfInBounds_toArray, List.set_cons_zero, List.set_cons_succ]
  refine det_load _ _ A (l.map bval) _ (by rfl) rfl rfl (fun w hw => ext_range H1.out hw) Try.underlying23 rfl HIl.out ?_
  simp only [Act.put, List.setIfInBounds_toArray, List.set_cons_zero, List.set_cons_succ]
  refine det_load _ _ (A + 1) (m.map bval) _ (by rfl) rfl rfl (fun w hw => ext_range H2.out hw) Try.underlying23 rfl HIm.out ?_
  simp only [Act.put, List.setIfInBounds_toArray, List.set_cons_zero, List.set_cons_succ]
  refine det_call _ _ _ [.agg (l.map bval).toArray, .agg (m.map bval).toArray] (.agg ((nb (((leN l : Nat) : Int) ^ leN m)).map bval).toArray) (by rfl) rfl Try.call20 rfl (fun w hw => Pow_num l m w HLl.out HLm.out) ?_
  simp only [Act.put, List.setIfInBounds_toArray, List.set_cons_zero, List.set_cons_succ]
  refine det_load _ _ A (l.map bval) _ (by rfl) rfl rfl (fun w hw => ext_range H1.out hw) Try.underlying23 rfl HIl.out ?_
  simp only [Act.put, List.setIfInBounds_toArray, List.set_cons_zero, List.set_cons_succ]
  refine det_load _ _ (A + 1) (m.map bval) _ (by rfl) rfl rfl (fun w hw => ext_range H2.out hw) Try.underlying23 rfl HIm.out ?_
  simp only [Act.put, List.setIfInBounds_toArray, List.set_cons_zero, List.set_cons_succ]
  refine det_call _ _ _ [.agg (l.map bval).toArray, .agg (m.map bval).toArray] (.agg ((nb (((leN l : Nat) : Int) ^ leN m)).map bval).toArray) (by rfl) rfl Try.call21 rfl (fun w hw => rPow_num l m w HLl.out HLm.out) ?_
  simp only [Act.put, List.setIfInBounds_toArray, List.set_cons_zero, List.set_cons_succ]
  refine det_eql _ _ _ _ _ _ 32 _ (nb (((leN l : Nat) : Int) ^ leN m)) (nb (((leN l : Nat) : Int) ^ leN m)) true (by rfl) rfl (Or.inl ⟨rfl, decide_eq_true rfl⟩) Try.underlying23 Try.underlying5 num_info num_cells num_guard rfl rfl (nb_length _) (nb_length _) ?_
  simp only [Act.put, List.setIfInBounds_toArray, List.set_cons_zero, List.set_cons_succ]
  refine det_pick _ _ _ true (.bool true) (by rfl) rfl rfl rfl ?_
  simp only [Act.put, List.setIfInBounds_toArray, List.set_cons_zero, List.set_cons_succ]
  refine det_move _ (.bool true) (by rfl) rfl rfl ?_
  simp only [Act.put, List.setIfInBounds_toArray, List.set_cons_zero, List.set_cons_succ]
  refine det_load _ _ A (l.map bval) _ (by rfl) rfl rfl (fun w hw => ext_range H1.out hw) Try.underlying23 rfl HIl.out ?_
  simp only [Act.put, List.setIfInBounds_toArray, List.set_cons_zero, List.set_cons_succ]
  refine det_call _ _ _ [.agg (l.map bval).toArray] (.agg ((nb (((leN l : Nat) : Int) ^ (pP - 2).toNat)).map bval).toArray) (by rfl) rfl Try.call22 rfl (fun w hw => Inv_num l w HLl.out) ?_
  simp only [Act.put, List.setIfInBounds_toArray, List.set_cons_zero, List.set_cons_succ]
  refine det_load _ _ A (l.map bval) _ (by rfl) rfl rfl (fun w hw => ext_range H1.out hw) Try.underlying23 rfl HIl.out ?_
  simp only [Act.put, List.setIfInBounds_toArray, List.set_cons_zero, List.set_cons_succ]
  refine det_call _ _ _ [.agg (l.map bval).toArray] (.agg ((nb (((leN l : Nat) : Int) ^ (pP - 2).toNat)).map bval).toArray) (by rfl) rfl Try.call23 rfl (fun w hw => rInv_num l w HLl.out) ?_
  simp only [Act.put, List.setIfInBounds_toArray, List.set_cons_zero, List.set_cons_succ]
  refine det_eql _ _ _ _ _ _ 32 _ (nb (((leN l : Nat) : Int) ^ (pP - 2).toNat)) (nb (((leN l : Nat) : Int) ^ (pP - 2).toNat)) true (by rfl) rfl (Or.inl ⟨rfl, decide_eq_true rfl⟩) Try.underlying23 Try.underlying5 num_info num_cells num_guard rfl rfl (nb_length _) (nb_length _) ?_
  simp only [Act.put, List.setIfInBounds_toArray, List.set_cons_zero, List.set_cons_succ]
  refine det_pick _ _ _ true (.bool true) (by rfl) rfl rfl rfl ?_
  simp only [Act.put, List.setIfInBounds_toArray, List.set_cons_zero, List.set_cons_succ]
  refine det_assign _ (.bool true) (by rfl) rfl rfl ?_
  simp only [Act.put, List.setIfInBounds_toArray, List.set_cons_zero, List.set_cons_succ]
  refine det_nil (end_none (by kernel_rfl) (fun w9 hw9 => ?_))
  go_wp2_with fail
  go_ret
  exact ⟨rfl, HE.out.trans hw9⟩

end Go.Proofs.Ytmiapjmdolecbaa
