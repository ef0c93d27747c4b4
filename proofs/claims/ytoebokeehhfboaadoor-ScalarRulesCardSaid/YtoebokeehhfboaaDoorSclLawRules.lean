/- The walk of ScalarRules. Each theorem names its own conditions. -/
import Derived.Test.YtoebokeehhfboaaDoorSclLaw0
import Derived.Test.YtoebokeehhfboaaDoorDetBool
namespace Go.Proofs.YtoebokeehhfboaaDoor
open Go.RowKit
set_option linter.unusedVariables false
set_option linter.unusedSimpArgs false

theorem rule_dist (a b c : List UInt8) : nq (((leN a : Nat) : Int) * ((leN (nq (((leN b : Nat) : Int) + ((leN c : Nat) : Int))) : Nat) : Int)) = nq (((leN (nq (((leN a : Nat) : Int) * ((leN b : Nat) : Int))) : Nat) : Int) + ((leN (nq (((leN a : Nat) : Int) * ((leN c : Nat) : Int))) : Nat) : Int)) := by
  rw [nq_add, ← Int.mul_add]
  refine nq_congr ?_
  rw [nq_val, Int.mul_emod, Int.emod_emod_of_dvd _ (Int.dvd_refl qQ), ← Int.mul_emod]
theorem build_sm1 (w : World) : (Instr.build 25 #[(0, .int .u8 1)]).run Tryd.prog w = .ok (.agg ((smL 1).map bval).toArray) w := by
  simp [Instr.build, Tryd.zeroValue25]
  rfl
set_option maxRecDepth 100000 in
set_option maxHeartbeats 8000000 in
theorem scalarRules_any (l m n : List UInt8) (w : World) (hl : l.length = 32) (hm : m.length = 32) (hn : n.length = 32) (hG : GlobT w) :
    Calls Tryd.prog 5 #[.agg (l.map bval).toArray, .agg (m.map bval).toArray, .agg (n.map bval).toArray] w fun e w' => e = .returned (.bool true) ∧ Below w.heap.size w w' := by
  have HGT := Lib.hid hG
  clear hG
  have HLl := Lib.hid hl
  have HIl : Hid ((Tryd.prog.info? 25).map (·.size) = some (l.map bval).length) := Lib.hid (num_size hl)
  have HLm := Lib.hid hm
  have HIm : Hid ((Tryd.prog.info? 25).map (·.size) = some (m.map bval).length) := Lib.hid (num_size hm)
  have HLn := Lib.hid hn
  have HIn : Hid ((Tryd.prog.info? 25).map (·.size) = some (n.map bval).length) := Lib.hid (num_size hn)
  have HB := Lib.hid (boxes3 w (l.map bval) (m.map bval) (n.map bval) 25 25 25)
  clear hl hm hn
  go_enter Tryd.func5, Tryd.ntmps5
  go_wp2_with fail
  change Calls _ _ _ (((w.alloc (.cells (l.map bval).toArray 25)).alloc (.cells (m.map bval).toArray 25)).alloc (.cells (n.map bval).toArray 25)) _
  generalize ((w.alloc (.cells (l.map bval).toArray 25)).alloc (.cells (m.map bval).toArray 25)).alloc (.cells (n.map bval).toArray 25) = w0 at *
  obtain ⟨h1, h2, h3, hE⟩ := HB.out
  obtain ⟨A, hA⟩ : ∃ A, A = w.heap.size := ⟨_, rfl⟩
  rw [← hA] at h1 h2 h3 ⊢
  have H1 := Lib.hid h1
  have H2 := Lib.hid h2
  have H3 := Lib.hid h3
  have HE : Hid (Ext w w0) := Lib.hid hE
  clear h1 h2 h3 hE HB hA
  refine (alive_any _ (HGT.out.ext HE.out)).mono ?_
  rintro e wa ⟨rfl, hb⟩
  have H1 := Lib.hid (ext_blk H1.out hb)
  have H2 := Lib.hid (ext_blk H2.out hb)
  have H3 := Lib.hid (ext_blk H3.out hb)
  have HE := Lib.hid (HE.out.trans hb)
  clear hb
  go_wp2_with fail
  refine wp_region_all (by kernel_rfl) (by kernel_rfl) ?_
  refine det_load _ _ A (l.map bval) _ (by rfl) rfl rfl (fun w hw => ext_range H1.out hw) Tryd.underlying25 rfl HIl.out ?_
  simp only [Act.put, List.setIfInBounds_toArray, List.set_cons_zero, List.set_cons_succ]
  refine det_load _ _ (A + 1) (m.map bval) _ (by rfl) rfl rfl (fun w hw => ext_range H2.out hw) Tryd.underlying25 rfl HIm.out ?_
  simp only [Act.put, List.setIfInBounds_toArray, List.set_cons_zero, List.set_cons_succ]
  refine det_load _ _ (A + 1 + 1) (n.map bval) _ (by rfl) rfl rfl (fun w hw => ext_range H3.out hw) Tryd.underlying25 rfl HIn.out ?_
  simp only [Act.put, List.setIfInBounds_toArray, List.set_cons_zero, List.set_cons_succ]
  refine det_call _ _ _ [.agg (m.map bval).toArray, .agg (n.map bval).toArray] (.agg ((nq (((leN m : Nat) : Int) + ((leN n : Nat) : Int))).map bval).toArray) (by rfl) rfl Tryd.call12 rfl (fun w hw => Add_num m n w HLm.out HLn.out (HGT.out.ext (HE.out.trans hw))) ?_
  simp only [Act.put, List.setIfInBounds_toArray, List.set_cons_zero, List.set_cons_succ]
  refine det_call _ _ _ [.agg (l.map bval).toArray, .agg ((nq (((leN m : Nat) : Int) + ((leN n : Nat) : Int))).map bval).toArray] (.agg ((nq (((leN l : Nat) : Int) * ((leN (nq (((leN m : Nat) : Int) + ((leN n : Nat) : Int))) : Nat) : Int))).map bval).toArray) (by rfl) rfl Tryd.call14 rfl (fun w hw => Mul_num l (nq (((leN m : Nat) : Int) + ((leN n : Nat) : Int))) w HLl.out (nq_length _) (HGT.out.ext (HE.out.trans hw))) ?_
  simp only [Act.put, List.setIfInBounds_toArray, List.set_cons_zero, List.set_cons_succ]
  refine det_load _ _ A (l.map bval) _ (by rfl) rfl rfl (fun w hw => ext_range H1.out hw) Tryd.underlying25 rfl HIl.out ?_
  simp only [Act.put, List.setIfInBounds_toArray, List.set_cons_zero, List.set_cons_succ]
  refine det_load _ _ (A + 1) (m.map bval) _ (by rfl) rfl rfl (fun w hw => ext_range H2.out hw) Tryd.underlying25 rfl HIm.out ?_
  simp only [Act.put, List.setIfInBounds_toArray, List.set_cons_zero, List.set_cons_succ]
  refine det_call _ _ _ [.agg (l.map bval).toArray, .agg (m.map bval).toArray] (.agg ((nq (((leN l : Nat) : Int) * ((leN m : Nat) : Int))).map bval).toArray) (by rfl) rfl Tryd.call14 rfl (fun w hw => Mul_num l m w HLl.out HLm.out (HGT.out.ext (HE.out.trans hw))) ?_
  simp only [Act.put, List.setIfInBounds_toArray, List.set_cons_zero, List.set_cons_succ]
  refine det_load _ _ A (l.map bval) _ (by rfl) rfl rfl (fun w hw => ext_range H1.out hw) Tryd.underlying25 rfl HIl.out ?_
  simp only [Act.put, List.setIfInBounds_toArray, List.set_cons_zero, List.set_cons_succ]
  refine det_load _ _ (A + 1 + 1) (n.map bval) _ (by rfl) rfl rfl (fun w hw => ext_range H3.out hw) Tryd.underlying25 rfl HIn.out ?_
  simp only [Act.put, List.setIfInBounds_toArray, List.set_cons_zero, List.set_cons_succ]
  refine det_call _ _ _ [.agg (l.map bval).toArray, .agg (n.map bval).toArray] (.agg ((nq (((leN l : Nat) : Int) * ((leN n : Nat) : Int))).map bval).toArray) (by rfl) rfl Tryd.call14 rfl (fun w hw => Mul_num l n w HLl.out HLn.out (HGT.out.ext (HE.out.trans hw))) ?_
  simp only [Act.put, List.setIfInBounds_toArray, List.set_cons_zero, List.set_cons_succ]
  refine det_call _ _ _ [.agg ((nq (((leN l : Nat) : Int) * ((leN m : Nat) : Int))).map bval).toArray, .agg ((nq (((leN l : Nat) : Int) * ((leN n : Nat) : Int))).map bval).toArray] (.agg ((nq (((leN (nq (((leN l : Nat) : Int) * ((leN m : Nat) : Int))) : Nat) : Int) + ((leN (nq (((leN l : Nat) : Int) * ((leN n : Nat) : Int))) : Nat) : Int))).map bval).toArray) (by rfl) rfl Tryd.call12 rfl (fun w hw => Add_num (nq (((leN l : Nat) : Int) * ((leN m : Nat) : Int))) (nq (((leN l : Nat) : Int) * ((leN n : Nat) : Int))) w (nq_length _) (nq_length _) (HGT.out.ext (HE.out.trans hw))) ?_
  simp only [Act.put, List.setIfInBounds_toArray, List.set_cons_zero, List.set_cons_succ]
  refine det_eql _ _ _ _ _ _ 32 _ (nq (((leN l : Nat) : Int) * ((leN (nq (((leN m : Nat) : Int) + ((leN n : Nat) : Int))) : Nat) : Int))) (nq (((leN (nq (((leN l : Nat) : Int) * ((leN m : Nat) : Int))) : Nat) : Int) + ((leN (nq (((leN l : Nat) : Int) * ((leN n : Nat) : Int))) : Nat) : Int))) true (by rfl) rfl (Or.inl ⟨rfl, decide_eq_true (rule_dist _ _ _)⟩) Tryd.underlying25 Tryd.underlying5 num_info num_cells num_guard rfl rfl (nq_length _) (nq_length _) ?_
  simp only [Act.put, List.setIfInBounds_toArray, List.set_cons_zero, List.set_cons_succ]
  refine det_assign _ (.bool true) (by rfl) rfl rfl ?_
  simp only [Act.put, List.setIfInBounds_toArray, List.set_cons_zero, List.set_cons_succ]
  refine det_nil (fun w2 hw2 => ?_)
  have H1 := Lib.hid (ext_blk H1.out hw2)
  have H2 := Lib.hid (ext_blk H2.out hw2)
  have H3 := Lib.hid (ext_blk H3.out hw2)
  have HE := Lib.hid (HE.out.trans hw2)
  clear hw2
  go_wp2_with fail
  refine wp_region_all (by kernel_rfl) (by kernel_rfl) ?_
  refine det_load _ _ A (l.map bval) _ (by rfl) rfl rfl (fun w hw => ext_range H1.out hw) Tryd.underlying25 rfl HIl.out ?_
  simp only [Act.put, List.setIfInBounds_toArray, List.set_cons_zero, List.set_cons_succ]
  refine det_load _ _ (A + 1) (m.map bval) _ (by rfl) rfl rfl (fun w hw => ext_range H2.out hw) Tryd.underlying25 rfl HIm.out ?_
  simp only [Act.put, List.setIfInBounds_toArray, List.set_cons_zero, List.set_cons_succ]
  refine det_call _ _ _ [.agg (l.map bval).toArray, .agg (m.map bval).toArray] (.agg ((nq (((leN l : Nat) : Int) * ((leN m : Nat) : Int))).map bval).toArray) (by rfl) rfl Tryd.call14 rfl (fun w hw => Mul_num l m w HLl.out HLm.out (HGT.out.ext (HE.out.trans hw))) ?_
  simp only [Act.put, List.setIfInBounds_toArray, List.set_cons_zero, List.set_cons_succ]
  refine det_load _ _ (A + 1) (m.map bval) _ (by rfl) rfl rfl (fun w hw => ext_range H2.out hw) Tryd.underlying25 rfl HIm.out ?_
  simp only [Act.put, List.setIfInBounds_toArray, List.set_cons_zero, List.set_cons_succ]
  refine det_load _ _ A (l.map bval) _ (by rfl) rfl rfl (fun w hw => ext_range H1.out hw) Tryd.underlying25 rfl HIl.out ?_
  simp only [Act.put, List.setIfInBounds_toArray, List.set_cons_zero, List.set_cons_succ]
  refine det_call _ _ _ [.agg (m.map bval).toArray, .agg (l.map bval).toArray] (.agg ((nq (((leN m : Nat) : Int) * ((leN l : Nat) : Int))).map bval).toArray) (by rfl) rfl Tryd.call14 rfl (fun w hw => Mul_num m l w HLm.out HLl.out (HGT.out.ext (HE.out.trans hw))) ?_
  simp only [Act.put, List.setIfInBounds_toArray, List.set_cons_zero, List.set_cons_succ]
  refine det_eql _ _ _ _ _ _ 32 _ (nq (((leN l : Nat) : Int) * ((leN m : Nat) : Int))) (nq (((leN m : Nat) : Int) * ((leN l : Nat) : Int))) true (by rfl) rfl (Or.inl ⟨rfl, decide_eq_true (by rw [Int.mul_comm])⟩) Tryd.underlying25 Tryd.underlying5 num_info num_cells num_guard rfl rfl (nq_length _) (nq_length _) ?_
  simp only [Act.put, List.setIfInBounds_toArray, List.set_cons_zero, List.set_cons_succ]
  refine det_move _ (.bool true) (by rfl) rfl rfl ?_
  simp only [Act.put, List.setIfInBounds_toArray, List.set_cons_zero, List.set_cons_succ]
  refine det_load _ _ A (l.map bval) _ (by rfl) rfl rfl (fun w hw => ext_range H1.out hw) Tryd.underlying25 rfl HIl.out ?_
  simp only [Act.put, List.setIfInBounds_toArray, List.set_cons_zero, List.set_cons_succ]
  refine det_load _ _ (A + 1) (m.map bval) _ (by rfl) rfl rfl (fun w hw => ext_range H2.out hw) Tryd.underlying25 rfl HIm.out ?_
  simp only [Act.put, List.setIfInBounds_toArray, List.set_cons_zero, List.set_cons_succ]
  refine det_call _ _ _ [.agg (l.map bval).toArray, .agg (m.map bval).toArray] (.agg ((nq (((leN l : Nat) : Int) + ((leN m : Nat) : Int))).map bval).toArray) (by rfl) rfl Tryd.call12 rfl (fun w hw => Add_num l m w HLl.out HLm.out (HGT.out.ext (HE.out.trans hw))) ?_
  simp only [Act.put, List.setIfInBounds_toArray, List.set_cons_zero, List.set_cons_succ]
  refine det_load _ _ (A + 1) (m.map bval) _ (by rfl) rfl rfl (fun w hw => ext_range H2.out hw) Tryd.underlying25 rfl HIm.out ?_
  simp only [Act.put, List.setIfInBounds_toArray, List.set_cons_zero, List.set_cons_succ]
  refine det_load _ _ A (l.map bval) _ (by rfl) rfl rfl (fun w hw => ext_range H1.out hw) Tryd.underlying25 rfl HIl.out ?_
  simp only [Act.put, List.setIfInBounds_toArray, List.set_cons_zero, List.set_cons_succ]
  refine det_call _ _ _ [.agg (m.map bval).toArray, .agg (l.map bval).toArray] (.agg ((nq (((leN m : Nat) : Int) + ((leN l : Nat) : Int))).map bval).toArray) (by rfl) rfl Tryd.call12 rfl (fun w hw => Add_num m l w HLm.out HLl.out (HGT.out.ext (HE.out.trans hw))) ?_
  simp only [Act.put, List.setIfInBounds_toArray, List.set_cons_zero, List.set_cons_succ]
  refine det_eql _ _ _ _ _ _ 32 _ (nq (((leN l : Nat) : Int) + ((leN m : Nat) : Int))) (nq (((leN m : Nat) : Int) + ((leN l : Nat) : Int))) true (by rfl) rfl (Or.inl ⟨rfl, decide_eq_true (by rw [Int.add_comm])⟩) Tryd.underlying25 Tryd.underlying5 num_info num_cells num_guard rfl rfl (nq_length _) (nq_length _) ?_
  simp only [Act.put, List.setIfInBounds_toArray, List.set_cons_zero, List.set_cons_succ]
  refine det_pick _ _ _ true (.bool true) (by rfl) rfl rfl rfl ?_
  simp only [Act.put, List.setIfInBounds_toArray, List.set_cons_zero, List.set_cons_succ]
  refine det_assign _ (.bool true) (by rfl) rfl rfl ?_
  simp only [Act.put, List.setIfInBounds_toArray, List.set_cons_zero, List.set_cons_succ]
  refine det_nil (fun w3 hw3 => ?_)
  have H1 := Lib.hid (ext_blk H1.out hw3)
  have H2 := Lib.hid (ext_blk H2.out hw3)
  have H3 := Lib.hid (ext_blk H3.out hw3)
  have HE := Lib.hid (HE.out.trans hw3)
  clear hw3
  go_wp2_with fail
  refine wp_region_all (by kernel_rfl) (by kernel_rfl) ?_
  refine det_load _ _ A (l.map bval) _ (by rfl) rfl rfl (fun w hw => ext_range H1.out hw) Tryd.underlying25 rfl HIl.out ?_
  simp only [Act.put, List.setIfInBounds_toArray, List.set_cons_zero, List.set_cons_succ]
  refine det_val (.agg ((smL 1).map bval).toArray) (by rfl) (fun w hw => by unfold execOp; simp [build_sm1, Act.eval]) ?_
  simp only [Act.put, List.setIfInBounds_toArray, List.set_cons_zero, List.set_cons_succ]
  refine det_call _ _ _ [.agg (l.map bval).toArray, .agg ((smL 1).map bval).toArray] (.agg ((nq (((leN l : Nat) : Int) * ((leN (smL 1) : Nat) : Int))).map bval).toArray) (by rfl) rfl Tryd.call14 rfl (fun w hw => Mul_num l (smL 1) w HLl.out (smL_length _) (HGT.out.ext (HE.out.trans hw))) ?_
  simp only [Act.put, List.setIfInBounds_toArray, List.set_cons_zero, List.set_cons_succ]
  refine det_val (.slice (some ⟨A, 0, none⟩) 32 32) (by rfl) (fun w hw => by go_simp) ?_
  simp only [Act.put, List.setIfInBounds_toArray, List.set_cons_zero, List.set_cons_succ]
  refine det_call _ _ _ [.slice (some ⟨A, 0, none⟩) 32 32] (.agg ((nq (((leN l : Nat) : Int))).map bval).toArray) (by rfl) rfl Tryd.call9 rfl (fun w hw => red_blk l (ext_blk H1.out hw) HLl.out (HGT.out.ext (HE.out.trans hw))) ?_
  simp only [Act.put, List.setIfInBounds_toArray, List.set_cons_zero, List.set_cons_succ]
  refine det_eql _ _ _ _ _ _ 32 _ (nq (((leN l : Nat) : Int) * ((leN (smL 1) : Nat) : Int))) (nq (((leN l : Nat) : Int))) true (by rfl) rfl (Or.inl ⟨rfl, decide_eq_true (by rw [leN_smL]; exact congrArg nq (Int.mul_one _))⟩) Tryd.underlying25 Tryd.underlying5 num_info num_cells num_guard rfl rfl (nq_length _) (nq_length _) ?_
  simp only [Act.put, List.setIfInBounds_toArray, List.set_cons_zero, List.set_cons_succ]
  refine det_move _ (.bool true) (by rfl) rfl rfl ?_
  simp only [Act.put, List.setIfInBounds_toArray, List.set_cons_zero, List.set_cons_succ]
  refine det_load _ _ A (l.map bval) _ (by rfl) rfl rfl (fun w hw => ext_range H1.out hw) Tryd.underlying25 rfl HIl.out ?_
  simp only [Act.put, List.setIfInBounds_toArray, List.set_cons_zero, List.set_cons_succ]
  refine det_val (.agg (zer.map bval).toArray) (by rfl) (fun w hw => by unfold execOp; simp [build_zer]) ?_
  simp only [Act.put, List.setIfInBounds_toArray, List.set_cons_zero, List.set_cons_succ]
  refine det_call _ _ _ [.agg (l.map bval).toArray, .agg (zer.map bval).toArray] (.agg ((nq (((leN l : Nat) : Int) + ((leN zer : Nat) : Int))).map bval).toArray) (by rfl) rfl Tryd.call12 rfl (fun w hw => Add_num l zer w HLl.out zer_length (HGT.out.ext (HE.out.trans hw))) ?_
  simp only [Act.put, List.setIfInBounds_toArray, List.set_cons_zero, List.set_cons_succ]
  refine det_val (.slice (some ⟨A, 0, none⟩) 32 32) (by rfl) (fun w hw => by go_simp) ?_
  simp only [Act.put, List.setIfInBounds_toArray, List.set_cons_zero, List.set_cons_succ]
  refine det_call _ _ _ [.slice (some ⟨A, 0, none⟩) 32 32] (.agg ((nq (((leN l : Nat) : Int))).map bval).toArray) (by rfl) rfl Tryd.call9 rfl (fun w hw => red_blk l (ext_blk H1.out hw) HLl.out (HGT.out.ext (HE.out.trans hw))) ?_
  simp only [Act.put, List.setIfInBounds_toArray, List.set_cons_zero, List.set_cons_succ]
  refine det_eql _ _ _ _ _ _ 32 _ (nq (((leN l : Nat) : Int) + ((leN zer : Nat) : Int))) (nq (((leN l : Nat) : Int))) true (by rfl) rfl (Or.inl ⟨rfl, decide_eq_true (by rw [leN_zer]; exact congrArg nq (Int.add_zero _))⟩) Tryd.underlying25 Tryd.underlying5 num_info num_cells num_guard rfl rfl (nq_length _) (nq_length _) ?_
  simp only [Act.put, List.setIfInBounds_toArray, List.set_cons_zero, List.set_cons_succ]
  refine det_pick _ _ _ true (.bool true) (by rfl) rfl rfl rfl ?_
  simp only [Act.put, List.setIfInBounds_toArray, List.set_cons_zero, List.set_cons_succ]
  refine det_assign _ (.bool true) (by rfl) rfl rfl ?_
  simp only [Act.put, List.setIfInBounds_toArray, List.set_cons_zero, List.set_cons_succ]
  refine det_nil (fun w4 hw4 => ?_)
  have H1 := Lib.hid (ext_blk H1.out hw4)
  have H2 := Lib.hid (ext_blk H2.out hw4)
  have H3 := Lib.hid (ext_blk H3.out hw4)
  have HE := Lib.hid (HE.out.trans hw4)
  clear hw4
  go_wp2_with fail
  refine wp_region_all (by kernel_rfl) (by kernel_rfl) ?_
  refine det_move _ (.bool true) (by rfl) rfl rfl ?_
  simp only [Act.put, List.setIfInBounds_toArray, List.set_cons_zero, List.set_cons_succ]
  refine det_move _ (.bool true) (by rfl) rfl rfl ?_
  simp only [Act.put, List.setIfInBounds_toArray, List.set_cons_zero, List.set_cons_succ]
  refine det_move _ (.bool true) (by rfl) rfl rfl ?_
  simp only [Act.put, List.setIfInBounds_toArray, List.set_cons_zero, List.set_cons_succ]
  refine det_pick _ _ _ true (.bool true) (by rfl) rfl rfl rfl ?_
  simp only [Act.put, List.setIfInBounds_toArray, List.set_cons_zero, List.set_cons_succ]
  refine det_move _ (.bool true) (by rfl) rfl rfl ?_
  simp only [Act.put, List.setIfInBounds_toArray, List.set_cons_zero, List.set_cons_succ]
  refine det_move _ (.bool true) (by rfl) rfl rfl ?_
  simp only [Act.put, List.setIfInBounds_toArray, List.set_cons_zero, List.set_cons_succ]
  refine det_pick _ _ _ true (.bool true) (by rfl) rfl rfl rfl ?_
  simp only [Act.put, List.setIfInBounds_toArray, List.set_cons_zero, List.set_cons_succ]
  refine det_move _ (.bool true) (by rfl) rfl rfl ?_
  simp only [Act.put, List.setIfInBounds_toArray, List.set_cons_zero, List.set_cons_succ]
  refine det_move _ (.bool true) (by rfl) rfl rfl ?_
  simp only [Act.put, List.setIfInBounds_toArray, List.set_cons_zero, List.set_cons_succ]
  refine det_pick _ _ _ true (.bool true) (by rfl) rfl rfl rfl ?_
  simp only [Act.put, List.setIfInBounds_toArray, List.set_cons_zero, List.set_cons_succ]
  refine det_move _ (.bool true) (by rfl) rfl rfl ?_
  simp only [Act.put, List.setIfInBounds_toArray, List.set_cons_zero, List.set_cons_succ]
  refine det_val (.slice (some ⟨A, 0, none⟩) 32 32) (by rfl) (fun w hw => by go_simp) ?_
  simp only [Act.put, List.setIfInBounds_toArray, List.set_cons_zero, List.set_cons_succ]
  refine det_call _ _ _ [.slice (some ⟨A, 0, none⟩) 32 32] (.agg ((nq (((leN l : Nat) : Int))).map bval).toArray) (by rfl) rfl Tryd.call9 rfl (fun w hw => red_blk l (ext_blk H1.out hw) HLl.out (HGT.out.ext (HE.out.trans hw))) ?_
  simp only [Act.put, List.setIfInBounds_toArray, List.set_cons_zero, List.set_cons_succ]
  refine det_load _ _ A (l.map bval) _ (by rfl) rfl rfl (fun w hw => ext_range H1.out hw) Tryd.underlying25 rfl HIl.out ?_
  simp only [Act.put, List.setIfInBounds_toArray, List.set_cons_zero, List.set_cons_succ]
  refine det_eql _ _ _ _ _ _ 32 _ (nq (((leN l : Nat) : Int))) l (lessB l) (by rfl) rfl (Or.inl ⟨rfl, lessB_eq l HLl.out⟩) Tryd.underlying25 Tryd.underlying5 num_info num_cells num_guard rfl rfl (nq_length _) HLl.out ?_
  simp only [Act.put, List.setIfInBounds_toArray, List.set_cons_zero, List.set_cons_succ]
  refine det_load _ _ A (l.map bval) _ (by rfl) rfl rfl (fun w hw => ext_range H1.out hw) Tryd.underlying25 rfl HIl.out ?_
  simp only [Act.put, List.setIfInBounds_toArray, List.set_cons_zero, List.set_cons_succ]
  refine det_call _ _ _ [.agg (l.map bval).toArray] (.bool (lessB l)) (by rfl) rfl Tryd.call11 rfl (fun w hw => Less_num l w HLl.out (HGT.out.ext (HE.out.trans hw))) ?_
  simp only [Act.put, List.setIfInBounds_toArray, List.set_cons_zero, List.set_cons_succ]
  refine det_eqb (lessB l) Tryd.underlying4 (by rfl) rfl rfl rfl ?_
  simp only [Act.put, List.setIfInBounds_toArray, List.set_cons_zero, List.set_cons_succ]
  refine det_pick _ _ _ true (.bool true) (by rfl) rfl rfl rfl ?_
  simp only [Act.put, List.setIfInBounds_toArray, List.set_cons_zero, List.set_cons_succ]
  refine det_assign _ (.bool true) (by rfl) rfl rfl ?_
  simp only [Act.put, List.setIfInBounds_toArray, List.set_cons_zero, List.set_cons_succ]
  refine det_nil (fun w9 hw9 => ?_)
  go_wp2_with fail
  go_ret
  exact ⟨rfl, HE.out.trans hw9⟩

end Go.Proofs.YtoebokeehhfboaaDoor
