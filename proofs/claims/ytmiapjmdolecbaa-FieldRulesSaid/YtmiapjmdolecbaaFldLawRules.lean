/- The walk of FieldRules. Each theorem names its own conditions. -/
import Derived.Test.YtmiapjmdolecbaaFldLaw0
import Derived.Test.YtmiapjmdolecbaaDetEnds
import Derived.Test.YtmiapjmdolecbaaFldTop3
import Derived.Test.YtmiapjmdolecbaaFldLawM
namespace Go.Proofs.Ytmiapjmdolecbaa
open Go.RowKit
set_option linter.unusedVariables false
set_option linter.unusedSimpArgs false

set_option maxRecDepth 100000 in
set_option maxHeartbeats 8000000 in
theorem fieldRules_zero (l m n : List UInt8) (w : World) (hl : l.length = 32) (hm : m.length = 32) (hn : n.length = 32) (hz : nb ((leN m : Nat) : Int) = zer) :
    Calls Try.prog 5 #[.agg (l.map bval).toArray, .agg (m.map bval).toArray, .agg (n.map bval).toArray] w fun e w' => e = .returned (.bool true) ∧ Below w.heap.size w w' := by
  have HLl := Lib.hid hl
  have HIl : Hid ((Try.prog.info? 23).map (·.size) = some (l.map bval).length) := Lib.hid (by rw [List.length_map, hl]; exact Try.arr23)
  have HLm := Lib.hid hm
  have HIm : Hid ((Try.prog.info? 23).map (·.size) = some (m.map bval).length) := Lib.hid (by rw [List.length_map, hm]; exact Try.arr23)
  have HLn := Lib.hid hn
  have HIn : Hid ((Try.prog.info? 23).map (·.size) = some (n.map bval).length) := Lib.hid (by rw [List.length_map, hn]; exact Try.arr23)
  have HB := Lib.hid (boxes3 w (l.map bval) (m.map bval) (n.map bval) 23 23 23)
  clear hl hm hn
  go_enter Try.func5, Try.ntmps5
  go_wp2_with fail
  change Calls _ _ _ (((w.alloc (.cells (l.map bval).toArray 23)).alloc (.cells (m.map bval).toArray 23)).alloc (.cells (n.map bval).toArray 23)) _
  generalize ((w.alloc (.cells (l.map bval).toArray 23)).alloc (.cells (m.map bval).toArray 23)).alloc (.cells (n.map bval).toArray 23) = w0 at *
  obtain ⟨h1, h2, h3, hE⟩ := HB.out
  obtain ⟨A, hA⟩ : ∃ A, A = w.heap.size := ⟨_, rfl⟩
  rw [← hA] at h1 h2 h3 ⊢
  have hA2 : w.heap.size ≤ A := by omega
  have H1 := Lib.hid h1
  have H2 := Lib.hid h2
  have H3 := Lib.hid h3
  have HE : Hid (Ext w w0) := Lib.hid hE
  clear h1 h2 h3 hE HB hA
  refine (alive_any _).mono ?_
  rintro e wa ⟨rfl, hb⟩
  have H1 := Lib.hid (ext_blk H1.out hb)
  have H2 := Lib.hid (ext_blk H2.out hb)
  have H3 := Lib.hid (ext_blk H3.out hb)
  have HE := Lib.hid (HE.out.trans hb)
  clear hb
  go_wp2_with fail
  refine wp_region_from 14 0 14 rfl (by kernel_rfl) (by kernel_rfl) (fun d v c a w h => by cases d <;> exact h) (by kernel_rfl) ?_
  refine det_load _ _ A (l.map bval) _ (by rfl) rfl rfl (fun w hw => ext_range H1.out hw) Try.underlying23 rfl HIl.out ?_
  simp only [Act.put, List.setIfInBounds_toArray, List.set_cons_zero, List.set_cons_succ]
  refine det_load _ _ (A + 1) (m.map bval) _ (by rfl) rfl rfl (fun w hw => ext_range H2.out hw) Try.underlying23 rfl HIm.out ?_
  simp only [Act.put, List.setIfInBounds_toArray, List.set_cons_zero, List.set_cons_succ]
  refine det_load _ _ (A + 1 + 1) (n.map bval) _ (by rfl) rfl rfl (fun w hw => ext_range H3.out hw) Try.underlying23 rfl HIn.out ?_
  simp only [Act.put, List.setIfInBounds_toArray, List.set_cons_zero, List.set_cons_succ]
  refine det_call _ _ _ [.agg (m.map bval).toArray, .agg (n.map bval).toArray] (.agg ((nb (((leN m : Nat) : Int) + ((leN n : Nat) : Int))).map bval).toArray) (by rfl) rfl Try.call14 rfl (fun w hw => Add_num m n w HLm.out HLn.out) ?_
  simp only [Act.put, List.setIfInBounds_toArray, List.set_cons_zero, List.set_cons_succ]
  refine det_call _ _ _ [.agg (l.map bval).toArray, .agg ((nb (((leN m : Nat) : Int) + ((leN n : Nat) : Int))).map bval).toArray] (.agg ((nb (((leN l : Nat) : Int) * ((leN (nb (((leN m : Nat) : Int) + ((leN n : Nat) : Int))) : Nat) : Int))).map bval).toArray) (by rfl) rfl Try.call18 rfl (fun w hw => Mul_num l (nb (((leN m : Nat) : Int) + ((leN n : Nat) : Int))) w HLl.out (nb_length _)) ?_
  simp only [Act.put, List.setIfInBounds_toArray, List.set_cons_zero, List.set_cons_succ]
  refine det_load _ _ A (l.map bval) _ (by rfl) rfl rfl (fun w hw => ext_range H1.out hw) Try.underlying23 rfl HIl.out ?_
  simp only [Act.put, List.setIfInBounds_toArray, List.set_cons_zero, List.set_cons_succ]
  refine det_load _ _ (A + 1) (m.map bval) _ (by rfl) rfl rfl (fun w hw => ext_range H2.out hw) Try.underlying23 rfl HIm.out ?_
  simp only [Act.put, List.setIfInBounds_toArray, List.set_cons_zero, List.set_cons_succ]
  refine det_call _ _ _ [.agg (l.map bval).toArray, .agg (m.map bval).toArray] (.agg ((nb (((leN l : Nat) : Int) * ((leN m : Nat) : Int))).map bval).toArray) (by rfl) rfl Try.call18 rfl (fun w hw => Mul_num l m w HLl.out HLm.out) ?_
  simp only [Act.put, List.setIfInBounds_toArray, List.set_cons_zero, List.set_cons_succ]
  refine det_load _ _ A (l.map bval) _ (by rfl) rfl rfl (fun w hw => ext_range H1.out hw) Try.underlying23 rfl HIl.out ?_
  simp only [Act.put, List.setIfInBounds_toArray, List.set_cons_zero, List.set_cons_succ]
  refine det_load _ _ (A + 1 + 1) (n.map bval) _ (by rfl) rfl rfl (fun w hw => ext_range H3.out hw) Try.underlying23 rfl HIn.out ?_
  simp only [Act.put, List.setIfInBounds_toArray, List.set_cons_zero, List.set_cons_succ]
  refine det_call _ _ _ [.agg (l.map bval).toArray, .agg (n.map bval).toArray] (.agg ((nb (((leN l : Nat) : Int) * ((leN n : Nat) : Int))).map bval).toArray) (by rfl) rfl Try.call18 rfl (fun w hw => Mul_num l n w HLl.out HLn.out) ?_
  simp only [Act.put, List.setIfInBounds_toArray, List.set_cons_zero, List.set_cons_succ]
  refine det_call _ _ _ [.agg ((nb (((leN l : Nat) : Int) * ((leN m : Nat) : Int))).map bval).toArray, .agg ((nb (((leN l : Nat) : Int) * ((leN n : Nat) : Int))).map bval).toArray] (.agg ((nb (((leN (nb (((leN l : Nat) : Int) * ((leN m : Nat) : Int))) : Nat) : Int) + ((leN (nb (((leN l : Nat) : Int) * ((leN n : Nat) : Int))) : Nat) : Int))).map bval).toArray) (by rfl) rfl Try.call14 rfl (fun w hw => Add_num (nb (((leN l : Nat) : Int) * ((leN m : Nat) : Int))) (nb (((leN l : Nat) : Int) * ((leN n : Nat) : Int))) w (nb_length _) (nb_length _)) ?_
  simp only [Act.put, List.setIfInBounds_toArray, List.set_cons_zero, List.set_cons_succ]
  refine det_eql _ _ _ _ _ _ 32 _ (nb (((leN l : Nat) : Int) * ((leN (nb (((leN m : Nat) : Int) + ((leN n : Nat) : Int))) : Nat) : Int))) (nb (((leN (nb (((leN l : Nat) : Int) * ((leN m : Nat) : Int))) : Nat) : Int) + ((leN (nb (((leN l : Nat) : Int) * ((leN n : Nat) : Int))) : Nat) : Int))) true (by rfl) rfl (Or.inl ⟨rfl, decide_eq_true (rules1 _ _ _)⟩) Try.underlying23 Try.underlying5 num_info num_cells num_guard rfl rfl (nb_length _) (nb_length _) ?_
  simp only [Act.put, List.setIfInBounds_toArray, List.set_cons_zero, List.set_cons_succ]
  refine det_assign _ (.bool true) (by rfl) rfl rfl ?_
  simp only [Act.put, List.setIfInBounds_toArray, List.set_cons_zero, List.set_cons_succ]
  refine det_nil (end_none (by kernel_rfl) (fun w2 hw2 => ?_))
  have H1 := Lib.hid (ext_blk H1.out hw2)
  have H2 := Lib.hid (ext_blk H2.out hw2)
  have H3 := Lib.hid (ext_blk H3.out hw2)
  have HE := Lib.hid (HE.out.trans hw2)
  clear hw2
  go_wp2_with fail
  refine wp_region_from 18 0 18 rfl (by kernel_rfl) (by kernel_rfl) (fun d v c a w h => by cases d <;> exact h) (by kernel_rfl) ?_
  refine det_load _ _ A (l.map bval) _ (by rfl) rfl rfl (fun w hw => ext_range H1.out hw) Try.underlying23 rfl HIl.out ?_
  simp only [Act.put, List.setIfInBounds_toArray, List.set_cons_zero, List.set_cons_succ]
  refine det_load _ _ (A + 1) (m.map bval) _ (by rfl) rfl rfl (fun w hw => ext_range H2.out hw) Try.underlying23 rfl HIm.out ?_
  simp only [Act.put, List.setIfInBounds_toArray, List.set_cons_zero, List.set_cons_succ]
  refine det_call _ _ _ [.agg (l.map bval).toArray, .agg (m.map bval).toArray] (.agg ((nb (((leN l : Nat) : Int) + ((leN m : Nat) : Int))).map bval).toArray) (by rfl) rfl Try.call14 rfl (fun w hw => Add_num l m w HLl.out HLm.out) ?_
  simp only [Act.put, List.setIfInBounds_toArray, List.set_cons_zero, List.set_cons_succ]
  refine det_load _ _ (A + 1) (m.map bval) _ (by rfl) rfl rfl (fun w hw => ext_range H2.out hw) Try.underlying23 rfl HIm.out ?_
  simp only [Act.put, List.setIfInBounds_toArray, List.set_cons_zero, List.set_cons_succ]
  refine det_call _ _ _ [.agg ((nb (((leN l : Nat) : Int) + ((leN m : Nat) : Int))).map bval).toArray, .agg (m.map bval).toArray] (.agg ((nb (((leN (nb (((leN l : Nat) : Int) + ((leN m : Nat) : Int))) : Nat) : Int) - ((leN m : Nat) : Int))).map bval).toArray) (by rfl) rfl Try.call16 rfl (fun w hw => Sub_num (nb (((leN l : Nat) : Int) + ((leN m : Nat) : Int))) m w (nb_length _) HLm.out) ?_
  simp only [Act.put, List.setIfInBounds_toArray, List.set_cons_zero, List.set_cons_succ]
  refine det_load _ _ A (l.map bval) _ (by rfl) rfl rfl (fun w hw => ext_range H1.out hw) Try.underlying23 rfl HIl.out ?_
  simp only [Act.put, List.setIfInBounds_toArray, List.set_cons_zero, List.set_cons_succ]
  refine det_call _ _ _ [.agg (l.map bval).toArray] (.agg ((nb (((leN l : Nat) : Int))).map bval).toArray) (by rfl) rfl Try.call12 rfl (fun w hw => Canon_num l w HLl.out) ?_
  simp only [Act.put, List.setIfInBounds_toArray, List.set_cons_zero, List.set_cons_succ]
  refine det_eql _ _ _ _ _ _ 32 _ (nb (((leN (nb (((leN l : Nat) : Int) + ((leN m : Nat) : Int))) : Nat) : Int) - ((leN m : Nat) : Int))) (nb (((leN l : Nat) : Int))) true (by rfl) rfl (Or.inl ⟨rfl, decide_eq_true (rules2 _ _)⟩) Try.underlying23 Try.underlying5 num_info num_cells num_guard rfl rfl (nb_length _) (nb_length _) ?_
  simp only [Act.put, List.setIfInBounds_toArray, List.set_cons_zero, List.set_cons_succ]
  refine det_move _ (.bool true) (by rfl) rfl rfl ?_
  simp only [Act.put, List.setIfInBounds_toArray, List.set_cons_zero, List.set_cons_succ]
  refine det_load _ _ A (l.map bval) _ (by rfl) rfl rfl (fun w hw => ext_range H1.out hw) Try.underlying23 rfl HIl.out ?_
  simp only [Act.put, List.setIfInBounds_toArray, List.set_cons_zero, List.set_cons_succ]
  refine det_load _ _ (A + 1) (m.map bval) _ (by rfl) rfl rfl (fun w hw => ext_range H2.out hw) Try.underlying23 rfl HIm.out ?_
  simp only [Act.put, List.setIfInBounds_toArray, List.set_cons_zero, List.set_cons_succ]
  refine det_call _ _ _ [.agg (l.map bval).toArray, .agg (m.map bval).toArray] (.agg ((nb (((leN l : Nat) : Int) * ((leN m : Nat) : Int))).map bval).toArray) (by rfl) rfl Try.call18 rfl (fun w hw => Mul_num l m w HLl.out HLm.out) ?_
  simp only [Act.put, List.setIfInBounds_toArray, List.set_cons_zero, List.set_cons_succ]
  refine det_load _ _ (A + 1) (m.map bval) _ (by rfl) rfl rfl (fun w hw => ext_range H2.out hw) Try.underlying23 rfl HIm.out ?_
  simp only [Act.put, List.setIfInBounds_toArray, List.set_cons_zero, List.set_cons_succ]
  refine det_load _ _ A (l.map bval) _ (by rfl) rfl rfl (fun w hw => ext_range H1.out hw) Try.underlying23 rfl HIl.out ?_
  simp only [Act.put, List.setIfInBounds_toArray, List.set_cons_zero, List.set_cons_succ]
  refine det_call _ _ _ [.agg (m.map bval).toArray, .agg (l.map bval).toArray] (.agg ((nb (((leN m : Nat) : Int) * ((leN l : Nat) : Int))).map bval).toArray) (by rfl) rfl Try.call18 rfl (fun w hw => Mul_num m l w HLm.out HLl.out) ?_
  simp only [Act.put, List.setIfInBounds_toArray, List.set_cons_zero, List.set_cons_succ]
  refine det_eql _ _ _ _ _ _ 32 _ (nb (((leN l : Nat) : Int) * ((leN m : Nat) : Int))) (nb (((leN m : Nat) : Int) * ((leN l : Nat) : Int))) true (by rfl) rfl (Or.inl ⟨rfl, decide_eq_true (rules3 _ _)⟩) Try.underlying23 Try.underlying5 num_info num_cells num_guard rfl rfl (nb_length _) (nb_length _) ?_
  simp only [Act.put, List.setIfInBounds_toArray, List.set_cons_zero, List.set_cons_succ]
  refine det_pick _ _ _ true (.bool true) (by rfl) rfl rfl rfl ?_
  simp only [Act.put, List.setIfInBounds_toArray, List.set_cons_zero, List.set_cons_succ]
  refine det_assign _ (.bool true) (by rfl) rfl rfl ?_
  simp only [Act.put, List.setIfInBounds_toArray, List.set_cons_zero, List.set_cons_succ]
  refine det_nil (end_none (by kernel_rfl) (fun w3 hw3 => ?_))
  have H1 := Lib.hid (ext_blk H1.out hw3)
  have H2 := Lib.hid (ext_blk H2.out hw3)
  have H3 := Lib.hid (ext_blk H3.out hw3)
  have HE := Lib.hid (HE.out.trans hw3)
  clear hw3
  go_wp2_with fail
  refine wp_region_from 6 2 7 rfl (by kernel_rfl) (by kernel_rfl) (fun d v c a w h => by cases d <;> exact h) (by kernel_rfl) ?_
  refine det_load _ _ A (l.map bval) _ (by rfl) rfl rfl (fun w hw => ext_range H1.out hw) Try.underlying23 rfl HIl.out ?_
  simp only [Act.put, List.setIfInBounds_toArray, List.set_cons_zero, List.set_cons_succ]
  refine det_load _ _ (A + 1) (m.map bval) _ (by rfl) rfl rfl (fun w hw => ext_range H2.out hw) Try.underlying23 rfl HIm.out ?_
  simp only [Act.put, List.setIfInBounds_toArray, List.set_cons_zero, List.set_cons_succ]
  refine det_call _ _ _ [.agg (l.map bval).toArray, .agg (m.map bval).toArray] (.agg ((nb (((leN l : Nat) : Int) * ((leN m : Nat) : Int))).map bval).toArray) (by rfl) rfl Try.call18 rfl (fun w hw => Mul_num l m w HLl.out HLm.out) ?_
  simp only [Act.put, List.setIfInBounds_toArray, List.set_cons_zero, List.set_cons_succ]
  refine det_load _ _ (A + 1) (m.map bval) _ (by rfl) rfl rfl (fun w hw => ext_range H2.out hw) Try.underlying23 rfl HIm.out ?_
  simp only [Act.put, List.setIfInBounds_toArray, List.set_cons_zero, List.set_cons_succ]
  refine det_call _ _ _ [.agg (m.map bval).toArray] (.agg ((nb (((leN m : Nat) : Int) ^ (pP - 2).toNat)).map bval).toArray) (by rfl) rfl Try.call22 rfl (fun w hw => Inv_num m w HLm.out) ?_
  simp only [Act.put, List.setIfInBounds_toArray, List.set_cons_zero, List.set_cons_succ]
  refine det_call _ _ _ [.agg ((nb (((leN l : Nat) : Int) * ((leN m : Nat) : Int))).map bval).toArray, .agg ((nb (((leN m : Nat) : Int) ^ (pP - 2).toNat)).map bval).toArray] (.agg ((nb (((leN (nb (((leN l : Nat) : Int) * ((leN m : Nat) : Int))) : Nat) : Int) * ((leN (nb (((leN m : Nat) : Int) ^ (pP - 2).toNat)) : Nat) : Int))).map bval).toArray) (by rfl) rfl Try.call18 rfl (fun w hw => Mul_num (nb (((leN l : Nat) : Int) * ((leN m : Nat) : Int))) (nb (((leN m : Nat) : Int) ^ (pP - 2).toNat)) w (nb_length _) (nb_length _)) ?_
  simp only [Act.put, List.setIfInBounds_toArray, List.set_cons_zero, List.set_cons_succ]
  refine det_nil (end_var (k := 6) _ 10 (.tmp 47) zero32 ((nb (((leN (nb (((leN l : Nat) : Int) * ((leN m : Nat) : Int))) : Nat) : Int) * ((leN (nb (((leN m : Nat) : Int) ^ (pP - 2).toNat)) : Nat) : Int))).map bval) rfl rfl (by kernel_rfl) (by kernel_rfl) (by kernel_rfl) (by kernel_rfl) (by kernel_rfl) rfl rfl rfl rfl Try.zeroValue23 rfl (by simp) (fun p => rfl) (nb_len _) (nb_size _) (bval_one _) (fun p wv hpv hbv hev => ?_))
  simp only [Act.put, List.setIfInBounds_toArray, List.set_cons_zero, List.set_cons_succ]
  have H1 := Lib.hid (ext_blk H1.out hev)
  have H2 := Lib.hid (ext_blk H2.out hev)
  have H3 := Lib.hid (ext_blk H3.out hev)
  have HE := Lib.hid (HE.out.trans hev)
  have HZ := Lib.hid hbv
  clear hbv hev hpv
  go_wp2_with fail
  refine wp_region_from 28 0 28 rfl (by kernel_rfl) (by kernel_rfl) (fun d v c a w h => by cases d <;> exact h) (by kernel_rfl) ?_
  refine det_move _ (.bool true) (by rfl) rfl rfl ?_
  simp only [Act.put, List.setIfInBounds_toArray, List.set_cons_zero, List.set_cons_succ]
  refine det_move _ (.bool true) (by rfl) rfl rfl ?_
  simp only [Act.put, List.setIfInBounds_toArray, List.set_cons_zero, List.set_cons_succ]
  refine det_move _ (.bool true) (by rfl) rfl rfl ?_
  simp only [Act.put, List.setIfInBounds_toArray, List.set_cons_zero, List.set_cons_succ]
  refine det_pick _ _ _ true (.bool true) (by rfl) rfl rfl rfl ?_
  simp only [Act.put, List.setIfInBounds_toArray, List.set_cons_zero, List.set_cons_succ]
  refine det_move _ (.bool true) (by rfl) rfl rfl ?_
  simp only [Act.put, List.setIfInBounds_toArray, List.set_cons_zero, List.set_cons_succ]
  refine det_move _ (.bool true) (by rfl) rfl rfl ?_
  simp only [Act.put, List.setIfInBounds_toArray, List.set_cons_zero, List.set_cons_succ]
  refine det_pick _ _ _ true (.bool true) (by rfl) rfl rfl rfl ?_
  simp only [Act.put, List.setIfInBounds_toArray, List.set_cons_zero, List.set_cons_succ]
  refine det_move _ (.bool true) (by rfl) rfl rfl ?_
  simp only [Act.put, List.setIfInBounds_toArray, List.set_cons_zero, List.set_cons_succ]
  refine det_load _ _ (A + 1) (m.map bval) _ (by rfl) rfl rfl (fun w hw => ext_range H2.out hw) Try.underlying23 rfl HIm.out ?_
  simp only [Act.put, List.setIfInBounds_toArray, List.set_cons_zero, List.set_cons_succ]
  refine det_call _ _ _ [.agg (m.map bval).toArray] (.agg ((nb (((leN m : Nat) : Int))).map bval).toArray) (by rfl) rfl Try.call12 rfl (fun w hw => Canon_num m w HLm.out) ?_
  simp only [Act.put, List.setIfInBounds_toArray, List.set_cons_zero, List.set_cons_succ]
  refine det_val (.agg (zer.map bval).toArray) (by rfl) (fun w hw => by unfold execOp; simp [build_zer]) ?_
  simp only [Act.put, List.setIfInBounds_toArray, List.set_cons_zero, List.set_cons_succ]
  refine det_eql _ _ _ _ _ _ 32 _ (nb (((leN m : Nat) : Int))) zer true (by rfl) rfl (Or.inl ⟨rfl, decide_eq_true hz⟩) Try.underlying23 Try.underlying5 num_info num_cells num_guard rfl rfl (nb_length _) zer_length ?_
  simp only [Act.put, List.setIfInBounds_toArray, List.set_cons_zero, List.set_cons_succ]
  refine det_move _ (.bool true) (by rfl) rfl rfl ?_
  simp only [Act.put, List.setIfInBounds_toArray, List.set_cons_zero, List.set_cons_succ]
  refine det_skip (by rfl) ?_
  simp only [Act.put, List.setIfInBounds_toArray, List.set_cons_zero, List.set_cons_succ]
  refine det_skip (by rfl) ?_
  simp only [Act.put, List.setIfInBounds_toArray, List.set_cons_zero, List.set_cons_succ]
  refine det_skip (by rfl) ?_
  simp only [Act.put, List.setIfInBounds_toArray, List.set_cons_zero, List.set_cons_succ]
  refine det_skip (by rfl) ?_
  simp only [Act.put, List.setIfInBounds_toArray, List.set_cons_zero, List.set_cons_succ]
  refine det_pick _ _ _ true (.bool true) (by rfl) rfl rfl rfl ?_
  simp only [Act.put, List.setIfInBounds_toArray, List.set_cons_zero, List.set_cons_succ]
  refine det_pick _ _ _ true (.bool true) (by rfl) rfl rfl rfl ?_
  simp only [Act.put, List.setIfInBounds_toArray, List.set_cons_zero, List.set_cons_succ]
  refine det_move _ (.bool true) (by rfl) rfl rfl ?_
  simp only [Act.put, List.setIfInBounds_toArray, List.set_cons_zero, List.set_cons_succ]
  refine det_load _ _ A (l.map bval) _ (by rfl) rfl rfl (fun w hw => ext_range H1.out hw) Try.underlying23 rfl HIl.out ?_
  simp only [Act.put, List.setIfInBounds_toArray, List.set_cons_zero, List.set_cons_succ]
  refine det_call _ _ _ [.agg (l.map bval).toArray] (.agg ((nb (((leN l : Nat) : Int) ^ (pP - 2).toNat)).map bval).toArray) (by rfl) rfl Try.call22 rfl (fun w hw => Inv_num l w HLl.out) ?_
  simp only [Act.put, List.setIfInBounds_toArray, List.set_cons_zero, List.set_cons_succ]
  refine det_call _ _ _ [.agg ((nb (((leN l : Nat) : Int) ^ (pP - 2).toNat)).map bval).toArray] (.agg ((nb (((leN (nb (((leN l : Nat) : Int) ^ (pP - 2).toNat)) : Nat) : Int) ^ (pP - 2).toNat)).map bval).toArray) (by rfl) rfl Try.call22 rfl (fun w hw => Inv_num (nb (((leN l : Nat) : Int) ^ (pP - 2).toNat)) w (nb_length _)) ?_
  simp only [Act.put, List.setIfInBounds_toArray, List.set_cons_zero, List.set_cons_succ]
  refine det_load _ _ A (l.map bval) _ (by rfl) rfl rfl (fun w hw => ext_range H1.out hw) Try.underlying23 rfl HIl.out ?_
  simp only [Act.put, List.setIfInBounds_toArray, List.set_cons_zero, List.set_cons_succ]
  refine det_call _ _ _ [.agg (l.map bval).toArray] (.agg ((nb (((leN l : Nat) : Int))).map bval).toArray) (by rfl) rfl Try.call12 rfl (fun w hw => Canon_num l w HLl.out) ?_
  simp only [Act.put, List.setIfInBounds_toArray, List.set_cons_zero, List.set_cons_succ]
  refine det_eql _ _ _ _ _ _ 32 _ (nb (((leN (nb (((leN l : Nat) : Int) ^ (pP - 2).toNat)) : Nat) : Int) ^ (pP - 2).toNat)) (nb (((leN l : Nat) : Int))) true (by rfl) rfl (Or.inl ⟨rfl, decide_eq_true (rules5 _)⟩) Try.underlying23 Try.underlying5 num_info num_cells num_guard rfl rfl (nb_length _) (nb_length _) ?_
  simp only [Act.put, List.setIfInBounds_toArray, List.set_cons_zero, List.set_cons_succ]
  refine det_pick _ _ _ true (.bool true) (by rfl) rfl rfl rfl ?_
  simp only [Act.put, List.setIfInBounds_toArray, List.set_cons_zero, List.set_cons_succ]
  refine det_assign _ (.bool true) (by rfl) rfl rfl ?_
  simp only [Act.put, List.setIfInBounds_toArray, List.set_cons_zero, List.set_cons_succ]
  refine det_nil (end_none (by kernel_rfl) (fun w9 hw9 => ?_))
  go_wp2_with fail
  go_ret
  exact ⟨rfl, HE.out.trans hw9⟩

set_option maxRecDepth 100000 in
set_option maxHeartbeats 8000000 in
theorem fieldRules_non (l m n : List UInt8) (w : World) (hl : l.length = 32) (hm : m.length = 32) (hn : n.length = 32) (hz : nb ((leN m : Nat) : Int) ≠ zer) :
    Calls Try.prog 5 #[.agg (l.map bval).toArray, .agg (m.map bval).toArray, .agg (n.map bval).toArray] w fun e w' => e = .returned (.bool true) ∧ Below w.heap.size w w' := by
  have HLl := Lib.hid hl
  have HIl : Hid ((Try.prog.info? 23).map (·.size) = some (l.map bval).length) := Lib.hid (by rw [List.length_map, hl]; exact Try.arr23)
  have HLm := Lib.hid hm
  have HIm : Hid ((Try.prog.info? 23).map (·.size) = some (m.map bval).length) := Lib.hid (by rw [List.length_map, hm]; exact Try.arr23)
  have HLn := Lib.hid hn
  have HIn : Hid ((Try.prog.info? 23).map (·.size) = some (n.map bval).length) := Lib.hid (by rw [List.length_map, hn]; exact Try.arr23)
  have HB := Lib.hid (boxes3 w (l.map bval) (m.map bval) (n.map bval) 23 23 23)
  clear hl hm hn
  go_enter Try.func5, Try.ntmps5
  go_wp2_with fail
  change Calls _ _ _ (((w.alloc (.cells (l.map bval).toArray 23)).alloc (.cells (m.map bval).toArray 23)).alloc (.cells (n.map bval).toArray 23)) _
  generalize ((w.alloc (.cells (l.map bval).toArray 23)).alloc (.cells (m.map bval).toArray 23)).alloc (.cells (n.map bval).toArray 23) = w0 at *
  obtain ⟨h1, h2, h3, hE⟩ := HB.out
  obtain ⟨A, hA⟩ : ∃ A, A = w.heap.size := ⟨_, rfl⟩
  rw [← hA] at h1 h2 h3 ⊢
  have hA2 : w.heap.size ≤ A := by omega
  have H1 := Lib.hid h1
  have H2 := Lib.hid h2
  have H3 := Lib.hid h3
  have HE : Hid (Ext w w0) := Lib.hid hE
  clear h1 h2 h3 hE HB hA
  refine (alive_any _).mono ?_
  rintro e wa ⟨rfl, hb⟩
  have H1 := Lib.hid (ext_blk H1.out hb)
  have H2 := Lib.hid (ext_blk H2.out hb)
  have H3 := Lib.hid (ext_blk H3.out hb)
  have HE := Lib.hid (HE.out.trans hb)
  clear hb
  go_wp2_with fail
  refine wp_region_from 14 0 14 rfl (by kernel_rfl) (by kernel_rfl) (fun d v c a w h => by cases d <;> exact h) (by kernel_rfl) ?_
  refine det_load _ _ A (l.map bval) _ (by rfl) rfl rfl (fun w hw => ext_range H1.out hw) Try.underlying23 rfl HIl.out ?_
  simp only [Act.put, List.setIfInBounds_toArray, List.set_cons_zero, List.set_cons_succ]
  refine det_load _ _ (A + 1) (m.map bval) _ (by rfl) rfl rfl (fun w hw => ext_range H2.out hw) Try.underlying23 rfl HIm.out ?_
  simp only [Act.put, List.setIfInBounds_toArray, List.set_cons_zero, List.set_cons_succ]
  refine det_load _ _ (A + 1 + 1) (n.map bval) _ (by rfl) rfl rfl (fun w hw => ext_range H3.out hw) Try.underlying23 rfl HIn.out ?_
  simp only [Act.put, List.setIfInBounds_toArray, List.set_cons_zero, List.set_cons_succ]
  refine det_call _ _ _ [.agg (m.map bval).toArray, .agg (n.map bval).toArray] (.agg ((nb (((leN m : Nat) : Int) + ((leN n : Nat) : Int))).map bval).toArray) (by rfl) rfl Try.call14 rfl (fun w hw => Add_num m n w HLm.out HLn.out) ?_
  simp only [Act.put, List.setIfInBounds_toArray, List.set_cons_zero, List.set_cons_succ]
  refine det_call _ _ _ [.agg (l.map bval).toArray, .agg ((nb (((leN m : Nat) : Int) + ((leN n : Nat) : Int))).map bval).toArray] (.agg ((nb (((leN l : Nat) : Int) * ((leN (nb (((leN m : Nat) : Int) + ((leN n : Nat) : Int))) : Nat) : Int))).map bval).toArray) (by rfl) rfl Try.call18 rfl (fun w hw => Mul_num l (nb (((leN m : Nat) : Int) + ((leN n : Nat) : Int))) w HLl.out (nb_length _)) ?_
  simp only [Act.put, List.setIfInBounds_toArray, List.set_cons_zero, List.set_cons_succ]
  refine det_load _ _ A (l.map bval) _ (by rfl) rfl rfl (fun w hw => ext_range H1.out hw) Try.underlying23 rfl HIl.out ?_
  simp only [Act.put, List.setIfInBounds_toArray, List.set_cons_zero, List.set_cons_succ]
  refine det_load _ _ (A + 1) (m.map bval) _ (by rfl) rfl rfl (fun w hw => ext_range H2.out hw) Try.underlying23 rfl HIm.out ?_
  simp only [Act.put, List.setIfInBounds_toArray, List.set_cons_zero, List.set_cons_succ]
  refine det_call _ _ _ [.agg (l.map bval).toArray, .agg (m.map bval).toArray] (.agg ((nb (((leN l : Nat) : Int) * ((leN m : Nat) : Int))).map bval).toArray) (by rfl) rfl Try.call18 rfl (fun w hw => Mul_num l m w HLl.out HLm.out) ?_
  simp only [Act.put, List.setIfInBounds_toArray, List.set_cons_zero, List.set_cons_succ]
  refine det_load _ _ A (l.map bval) _ (by rfl) rfl rfl (fun w hw => ext_range H1.out hw) Try.underlying23 rfl HIl.out ?_
  simp only [Act.put, List.setIfInBounds_toArray, List.set_cons_zero, List.set_cons_succ]
  refine det_load _ _ (A + 1 + 1) (n.map bval) _ (by rfl) rfl rfl (fun w hw => ext_range H3.out hw) Try.underlying23 rfl HIn.out ?_
  simp only [Act.put, List.setIfInBounds_toArray, List.set_cons_zero, List.set_cons_succ]
  refine det_call _ _ _ [.agg (l.map bval).toArray, .agg (n.map bval).toArray] (.agg ((nb (((leN l : Nat) : Int) * ((leN n : Nat) : Int))).map bval).toArray) (by rfl) rfl Try.call18 rfl (fun w hw => Mul_num l n w HLl.out HLn.out) ?_
  simp only [Act.put, List.setIfInBounds_toArray, List.set_cons_zero, List.set_cons_succ]
  refine det_call _ _ _ [.agg ((nb (((leN l : Nat) : Int) * ((leN m : Nat) : Int))).map bval).toArray, .agg ((nb (((leN l : Nat) : Int) * ((leN n : Nat) : Int))).map bval).toArray] (.agg ((nb (((leN (nb (((leN l : Nat) : Int) * ((leN m : Nat) : Int))) : Nat) : Int) + ((leN (nb (((leN l : Nat) : Int) * ((leN n : Nat) : Int))) : Nat) : Int))).map bval).toArray) (by rfl) rfl Try.call14 rfl (fun w hw => Add_num (nb (((leN l : Nat) : Int) * ((leN m : Nat) : Int))) (nb (((leN l : Nat) : Int) * ((leN n : Nat) : Int))) w (nb_length _) (nb_length _)) ?_
  simp only [Act.put, List.setIfInBounds_toArray, List.set_cons_zero, List.set_cons_succ]
  refine det_eql _ _ _ _ _ _ 32 _ (nb (((leN l : Nat) : Int) * ((leN (nb (((leN m : Nat) : Int) + ((leN n : Nat) : Int))) : Nat) : Int))) (nb (((leN (nb (((leN l : Nat) : Int) * ((leN m : Nat) : Int))) : Nat) : Int) + ((leN (nb (((leN l : Nat) : Int) * ((leN n : Nat) : Int))) : Nat) : Int))) true (by rfl) rfl (Or.inl ⟨rfl, decide_eq_true (rules1 _ _ _)⟩) Try.underlying23 Try.underlying5 num_info num_cells num_guard rfl rfl (nb_length _) (nb_length _) ?_
  simp only [Act.put, List.setIfInBounds_toArray, List.set_cons_zero, List.set_cons_succ]
  refine det_assign _ (.bool true) (by rfl) rfl rfl ?_
  simp only [Act.put, List.setIfInBounds_toArray, List.set_cons_zero, List.set_cons_succ]
  refine det_nil (end_none (by kernel_rfl) (fun w2 hw2 => ?_))
  have H1 := Lib.hid (ext_blk H1.out hw2)
  have H2 := Lib.hid (ext_blk H2.out hw2)
  have H3 := Lib.hid (ext_blk H3.out hw2)
  have HE := Lib.hid (HE.out.trans hw2)
  clear hw2
  go_wp2_with fail
  refine wp_region_from 18 0 18 rfl (by kernel_rfl) (by kernel_rfl) (fun d v c a w h => by cases d <;> exact h) (by kernel_rfl) ?_
  refine det_load _ _ A (l.map bval) _ (by rfl) rfl rfl (fun w hw => ext_range H1.out hw) Try.underlying23 rfl HIl.out ?_
  simp only [Act.put, List.setIfInBounds_toArray, List.set_cons_zero, List.set_cons_succ]
  refine det_load _ _ (A + 1) (m.map bval) _ (by rfl) rfl rfl (fun w hw => ext_range H2.out hw) Try.underlying23 rfl HIm.out ?_
  simp only [Act.put, List.setIfInBounds_toArray, List.set_cons_zero, List.set_cons_succ]
  refine det_call _ _ _ [.agg (l.map bval).toArray, .agg (m.map bval).toArray] (.agg ((nb (((leN l : Nat) : Int) + ((leN m : Nat) : Int))).map bval).toArray) (by rfl) rfl Try.call14 rfl (fun w hw => Add_num l m w HLl.out HLm.out) ?_
  simp only [Act.put, List.setIfInBounds_toArray, List.set_cons_zero, List.set_cons_succ]
  refine det_load _ _ (A + 1) (m.map bval) _ (by rfl) rfl rfl (fun w hw => ext_range H2.out hw) Try.underlying23 rfl HIm.out ?_
  simp only [Act.put, List.setIfInBounds_toArray, List.set_cons_zero, List.set_cons_succ]
  refine det_call _ _ _ [.agg ((nb (((leN l : Nat) : Int) + ((leN m : Nat) : Int))).map bval).toArray, .agg (m.map bval).toArray] (.agg ((nb (((leN (nb (((leN l : Nat) : Int) + ((leN m : Nat) : Int))) : Nat) : Int) - ((leN m : Nat) : Int))).map bval).toArray) (by rfl) rfl Try.call16 rfl (fun w hw => Sub_num (nb (((leN l : Nat) : Int) + ((leN m : Nat) : Int))) m w (nb_length _) HLm.out) ?_
  simp only [Act.put, List.setIfInBounds_toArray, List.set_cons_zero, List.set_cons_succ]
  refine det_load _ _ A (l.map bval) _ (by rfl) rfl rfl (fun w hw => ext_range H1.out hw) Try.underlying23 rfl HIl.out ?_
  simp only [Act.put, List.setIfInBounds_toArray, List.set_cons_zero, List.set_cons_succ]
  refine det_call _ _ _ [.agg (l.map bval).toArray] (.agg ((nb (((leN l : Nat) : Int))).map bval).toArray) (by rfl) rfl Try.call12 rfl (fun w hw => Canon_num l w HLl.out) ?_
  simp only [Act.put, List.setIfInBounds_toArray, List.set_cons_zero, List.set_cons_succ]
  refine det_eql _ _ _ _ _ _ 32 _ (nb (((leN (nb (((leN l : Nat) : Int) + ((leN m : Nat) : Int))) : Nat) : Int) - ((leN m : Nat) : Int))) (nb (((leN l : Nat) : Int))) true (by rfl) rfl (Or.inl ⟨rfl, decide_eq_true (rules2 _ _)⟩) Try.underlying23 Try.underlying5 num_info num_cells num_guard rfl rfl (nb_length _) (nb_length _) ?_
  simp only [Act.put, List.setIfInBounds_toArray, List.set_cons_zero, List.set_cons_succ]
  refine det_move _ (.bool true) (by rfl) rfl rfl ?_
  simp only [Act.put, List.setIfInBounds_toArray, List.set_cons_zero, List.set_cons_succ]
  refine det_load _ _ A (l.map bval) _ (by rfl) rfl rfl (fun w hw => ext_range H1.out hw) Try.underlying23 rfl HIl.out ?_
  simp only [Act.put, List.setIfInBounds_toArray, List.set_cons_zero, List.set_cons_succ]
  refine det_load _ _ (A + 1) (m.map bval) _ (by rfl) rfl rfl (fun w hw => ext_range H2.out hw) Try.underlying23 rfl HIm.out ?_
  simp only [Act.put, List.setIfInBounds_toArray, List.set_cons_zero, List.set_cons_succ]
  refine det_call _ _ _ [.agg (l.map bval).toArray, .agg (m.map bval).toArray] (.agg ((nb (((leN l : Nat) : Int) * ((leN m : Nat) : Int))).map bval).toArray) (by rfl) rfl Try.call18 rfl (fun w hw => Mul_num l m w HLl.out HLm.out) ?_
  simp only [Act.put, List.setIfInBounds_toArray, List.set_cons_zero, List.set_cons_succ]
  refine det_load _ _ (A + 1) (m.map bval) _ (by rfl) rfl rfl (fun w hw => ext_range H2.out hw) Try.underlying23 rfl HIm.out ?_
  simp only [Act.put, List.setIfInBounds_toArray, List.set_cons_zero, List.set_cons_succ]
  refine det_load _ _ A (l.map bval) _ (by rfl) rfl rfl (fun w hw => ext_range H1.out hw) Try.underlying23 rfl HIl.out ?_
  simp only [Act.put, List.setIfInBounds_toArray, List.set_cons_zero, List.set_cons_succ]
  refine det_call _ _ _ [.agg (m.map bval).toArray, .agg (l.map bval).toArray] (.agg ((nb (((leN m : Nat) : Int) * ((leN l : Nat) : Int))).map bval).toArray) (by rfl) rfl Try.call18 rfl (fun w hw => Mul_num m l w HLm.out HLl.out) ?_
  simp only [Act.put, List.setIfInBounds_toArray, List.set_cons_zero, List.set_cons_succ]
  refine det_eql _ _ _ _ _ _ 32 _ (nb (((leN l : Nat) : Int) * ((leN m : Nat) : Int))) (nb (((leN m : Nat) : Int) * ((leN l : Nat) : Int))) true (by rfl) rfl (Or.inl ⟨rfl, decide_eq_true (rules3 _ _)⟩) Try.underlying23 Try.underlying5 num_info num_cells num_guard rfl rfl (nb_length _) (nb_length _) ?_
  simp only [Act.put, List.setIfInBounds_toArray, List.set_cons_zero, List.set_cons_succ]
  refine det_pick _ _ _ true (.bool true) (by rfl) rfl rfl rfl ?_
  simp only [Act.put, List.setIfInBounds_toArray, List.set_cons_zero, List.set_cons_succ]
  refine det_assign _ (.bool true) (by rfl) rfl rfl ?_
  simp only [Act.put, List.setIfInBounds_toArray, List.set_cons_zero, List.set_cons_succ]
  refine det_nil (end_none (by kernel_rfl) (fun w3 hw3 => ?_))
  have H1 := Lib.hid (ext_blk H1.out hw3)
  have H2 := Lib.hid (ext_blk H2.out hw3)
  have H3 := Lib.hid (ext_blk H3.out hw3)
  have HE := Lib.hid (HE.out.trans hw3)
  clear hw3
  go_wp2_with fail
  refine wp_region_from 6 2 7 rfl (by kernel_rfl) (by kernel_rfl) (fun d v c a w h => by cases d <;> exact h) (by kernel_rfl) ?_
  refine det_load _ _ A (l.map bval) _ (by rfl) rfl rfl (fun w hw => ext_range H1.out hw) Try.underlying23 rfl HIl.out ?_
  simp only [Act.put, List.setIfInBounds_toArray, List.set_cons_zero, List.set_cons_succ]
  refine det_load _ _ (A + 1) (m.map bval) _ (by rfl) rfl rfl (fun w hw => ext_range H2.out hw) Try.underlying23 rfl HIm.out ?_
  simp only [Act.put, List.setIfInBounds_toArray, List.set_cons_zero, List.set_cons_succ]
  refine det_call _ _ _ [.agg (l.map bval).toArray, .agg (m.map bval).toArray] (.agg ((nb (((leN l : Nat) : Int) * ((leN m : Nat) : Int))).map bval).toArray) (by rfl) rfl Try.call18 rfl (fun w hw => Mul_num l m w HLl.out HLm.out) ?_
  simp only [Act.put, List.setIfInBounds_toArray, List.set_cons_zero, List.set_cons_succ]
  refine det_load _ _ (A + 1) (m.map bval) _ (by rfl) rfl rfl (fun w hw => ext_range H2.out hw) Try.underlying23 rfl HIm.out ?_
  simp only [Act.put, List.setIfInBounds_toArray, List.set_cons_zero, List.set_cons_succ]
  refine det_call _ _ _ [.agg (m.map bval).toArray] (.agg ((nb (((leN m : Nat) : Int) ^ (pP - 2).toNat)).map bval).toArray) (by rfl) rfl Try.call22 rfl (fun w hw => Inv_num m w HLm.out) ?_
  simp only [Act.put, List.setIfInBounds_toArray, List.set_cons_zero, List.set_cons_succ]
  refine det_call _ _ _ [.agg ((nb (((leN l : Nat) : Int) * ((leN m : Nat) : Int))).map bval).toArray, .agg ((nb (((leN m : Nat) : Int) ^ (pP - 2).toNat)).map bval).toArray] (.agg ((nb (((leN (nb (((leN l : Nat) : Int) * ((leN m : Nat) : Int))) : Nat) : Int) * ((leN (nb (((leN m : Nat) : Int) ^ (pP - 2).toNat)) : Nat) : Int))).map bval).toArray) (by rfl) rfl Try.call18 rfl (fun w hw => Mul_num (nb (((leN l : Nat) : Int) * ((leN m : Nat) : Int))) (nb (((leN m : Nat) : Int) ^ (pP - 2).toNat)) w (nb_length _) (nb_length _)) ?_
  simp only [Act.put, List.setIfInBounds_toArray, List.set_cons_zero, List.set_cons_succ]
  refine det_nil (end_var (k := 6) _ 10 (.tmp 47) zero32 ((nb (((leN (nb (((leN l : Nat) : Int) * ((leN m : Nat) : Int))) : Nat) : Int) * ((leN (nb (((leN m : Nat) : Int) ^ (pP - 2).toNat)) : Nat) : Int))).map bval) rfl rfl (by kernel_rfl) (by kernel_rfl) (by kernel_rfl) (by kernel_rfl) (by kernel_rfl) rfl rfl rfl rfl Try.zeroValue23 rfl (by simp) (fun p => rfl) (nb_len _) (nb_size _) (bval_one _) (fun p wv hpv hbv hev => ?_))
  simp only [Act.put, List.setIfInBounds_toArray, List.set_cons_zero, List.set_cons_succ]
  have H1 := Lib.hid (ext_blk H1.out hev)
  have H2 := Lib.hid (ext_blk H2.out hev)
  have H3 := Lib.hid (ext_blk H3.out hev)
  have HE := Lib.hid (HE.out.trans hev)
  have HZ := Lib.hid hbv
  clear hbv hev hpv
  go_wp2_with fail
  refine wp_region_from 28 0 28 rfl (by kernel_rfl) (by kernel_rfl) (fun d v c a w h => by cases d <;> exact h) (by kernel_rfl) ?_
  refine det_move _ (.bool true) (by rfl) rfl rfl ?_
  simp only [Act.put, List.setIfInBounds_toArray, List.set_cons_zero, List.set_cons_succ]
  refine det_move _ (.bool true) (by rfl) rfl rfl ?_
  simp only [Act.put, List.setIfInBounds_toArray, List.set_cons_zero, List.set_cons_succ]
  refine det_move _ (.bool true) (by rfl) rfl rfl ?_
  simp only [Act.put, List.setIfInBounds_toArray, List.set_cons_zero, List.set_cons_succ]
  refine det_pick _ _ _ true (.bool true) (by rfl) rfl rfl rfl ?_
  simp only [Act.put, List.setIfInBounds_toArray, List.set_cons_zero, List.set_cons_succ]
  refine det_move _ (.bool true) (by rfl) rfl rfl ?_
  simp only [Act.put, List.setIfInBounds_toArray, List.set_cons_zero, List.set_cons_succ]
  refine det_move _ (.bool true) (by rfl) rfl rfl ?_
  simp only [Act.put, List.setIfInBounds_toArray, List.set_cons_zero, List.set_cons_succ]
  refine det_pick _ _ _ true (.bool true) (by rfl) rfl rfl rfl ?_
  simp only [Act.put, List.setIfInBounds_toArray, List.set_cons_zero, List.set_cons_succ]
  refine det_move _ (.bool true) (by rfl) rfl rfl ?_
  simp only [Act.put, List.setIfInBounds_toArray, List.set_cons_zero, List.set_cons_succ]
  refine det_load _ _ (A + 1) (m.map bval) _ (by rfl) rfl rfl (fun w hw => ext_range H2.out hw) Try.underlying23 rfl HIm.out ?_
  simp only [Act.put, List.setIfInBounds_toArray, List.set_cons_zero, List.set_cons_succ]
  refine det_call _ _ _ [.agg (m.map bval).toArray] (.agg ((nb (((leN m : Nat) : Int))).map bval).toArray) (by rfl) rfl Try.call12 rfl (fun w hw => Canon_num m w HLm.out) ?_
  simp only [Act.put, List.setIfInBounds_toArray, List.set_cons_zero, List.set_cons_succ]
  refine det_val (.agg (zer.map bval).toArray) (by rfl) (fun w hw => by unfold execOp; simp [build_zer]) ?_
  simp only [Act.put, List.setIfInBounds_toArray, List.set_cons_zero, List.set_cons_succ]
  refine det_eql _ _ _ _ _ _ 32 _ (nb (((leN m : Nat) : Int))) zer false (by rfl) rfl (Or.inl ⟨rfl, decide_eq_false hz⟩) Try.underlying23 Try.underlying5 num_info num_cells num_guard rfl rfl (nb_length _) zer_length ?_
  simp only [Act.put, List.setIfInBounds_toArray, List.set_cons_zero, List.set_cons_succ]
  refine det_move _ (.bool false) (by rfl) rfl rfl ?_
  simp only [Act.put, List.setIfInBounds_toArray, List.set_cons_zero, List.set_cons_succ]
  refine det_load _ _ p ((nb (((leN (nb (((leN l : Nat) : Int) * ((leN m : Nat) : Int))) : Nat) : Int) * ((leN (nb (((leN m : Nat) : Int) ^ (pP - 2).toNat)) : Nat) : Int))).map bval) _ (by rfl) rfl rfl (fun w hw => ext_range HZ.out hw) Try.underlying23 rfl (nb_size _) ?_
  simp only [Act.put, List.setIfInBounds_toArray, List.set_cons_zero, List.set_cons_succ]
  refine det_load _ _ A (l.map bval) _ (by rfl) rfl rfl (fun w hw => ext_range H1.out hw) Try.underlying23 rfl HIl.out ?_
  simp only [Act.put, List.setIfInBounds_toArray, List.set_cons_zero, List.set_cons_succ]
  refine det_call _ _ _ [.agg (l.map bval).toArray] (.agg ((nb (((leN l : Nat) : Int))).map bval).toArray) (by rfl) rfl Try.call12 rfl (fun w hw => Canon_num l w HLl.out) ?_
  simp only [Act.put, List.setIfInBounds_toArray, List.set_cons_zero, List.set_cons_succ]
  refine det_eql _ _ _ _ _ _ 32 _ (nb (((leN (nb (((leN l : Nat) : Int) * ((leN m : Nat) : Int))) : Nat) : Int) * ((leN (nb (((leN m : Nat) : Int) ^ (pP - 2).toNat)) : Nat) : Int))) (nb (((leN l : Nat) : Int))) true (by rfl) rfl (Or.inl ⟨rfl, decide_eq_true (rules4 _ _ hz)⟩) Try.underlying23 Try.underlying5 num_info num_cells num_guard rfl rfl (nb_length _) (nb_length _) ?_
  simp only [Act.put, List.setIfInBounds_toArray, List.set_cons_zero, List.set_cons_succ]
  refine det_pick _ _ _ false (.bool true) (by rfl) rfl rfl rfl ?_
  simp only [Act.put, List.setIfInBounds_toArray, List.set_cons_zero, List.set_cons_succ]
  refine det_pick _ _ _ true (.bool true) (by rfl) rfl rfl rfl ?_
  simp only [Act.put, List.setIfInBounds_toArray, List.set_cons_zero, List.set_cons_succ]
  refine det_move _ (.bool true) (by rfl) rfl rfl ?_
  simp only [Act.put, List.setIfInBounds_toArray, List.set_cons_zero, List.set_cons_succ]
  refine det_load _ _ A (l.map bval) _ (by rfl) rfl rfl (fun w hw => ext_range H1.out hw) Try.underlying23 rfl HIl.out ?_
  simp only [Act.put, List.setIfInBounds_toArray, List.set_cons_zero, List.set_cons_succ]
  refine det_call _ _ _ [.agg (l.map bval).toArray] (.agg ((nb (((leN l : Nat) : Int) ^ (pP - 2).toNat)).map bval).toArray) (by rfl) rfl Try.call22 rfl (fun w hw => Inv_num l w HLl.out) ?_
  simp only [Act.put, List.setIfInBounds_toArray, List.set_cons_zero, List.set_cons_succ]
  refine det_call _ _ _ [.agg ((nb (((leN l : Nat) : Int) ^ (pP - 2).toNat)).map bval).toArray] (.agg ((nb (((leN (nb (((leN l : Nat) : Int) ^ (pP - 2).toNat)) : Nat) : Int) ^ (pP - 2).toNat)).map bval).toArray) (by rfl) rfl Try.call22 rfl (fun w hw => Inv_num (nb (((leN l : Nat) : Int) ^ (pP - 2).toNat)) w (nb_length _)) ?_
  simp only [Act.put, List.setIfInBounds_toArray, List.set_cons_zero, List.set_cons_succ]
  refine det_load _ _ A (l.map bval) _ (by rfl) rfl rfl (fun w hw => ext_range H1.out hw) Try.underlying23 rfl HIl.out ?_
  simp only [Act.put, List.setIfInBounds_toArray, List.set_cons_zero, List.set_cons_succ]
  refine det_call _ _ _ [.agg (l.map bval).toArray] (.agg ((nb (((leN l : Nat) : Int))).map bval).toArray) (by rfl) rfl Try.call12 rfl (fun w hw => Canon_num l w HLl.out) ?_
  simp only [Act.put, List.setIfInBounds_toArray, List.set_cons_zero, List.set_cons_succ]
  refine det_eql _ _ _ _ _ _ 32 _ (nb (((leN (nb (((leN l : Nat) : Int) ^ (pP - 2).toNat)) : Nat) : Int) ^ (pP - 2).toNat)) (nb (((leN l : Nat) : Int))) true (by rfl) rfl (Or.inl ⟨rfl, decide_eq_true (rules5 _)⟩) Try.underlying23 Try.underlying5 num_info num_cells num_guard rfl rfl (nb_length _) (nb_length _) ?_
  simp only [Act.put, List.setIfInBounds_toArray, List.set_cons_zero, List.set_cons_succ]
  refine det_pick _ _ _ true (.bool true) (by rfl) rfl rfl rfl ?_
  simp only [Act.put, List.setIfInBounds_toArray, List.set_cons_zero, List.set_cons_succ]
  refine det_assign _ (.bool true) (by rfl) rfl rfl ?_
  simp only [Act.put, List.setIfInBounds_toArray, List.set_cons_zero, List.set_cons_succ]
  refine det_nil (end_none (by kernel_rfl) (fun w9 hw9 => ?_))
  go_wp2_with fail
  go_ret
  exact ⟨rfl, HE.out.trans hw9⟩

theorem fieldRules_any (l m n : List UInt8) (w : World) (hl : l.length = 32) (hm : m.length = 32) (hn : n.length = 32) :
    Calls Try.prog 5 #[.agg (l.map bval).toArray, .agg (m.map bval).toArray, .agg (n.map bval).toArray] w fun e w' => e = .returned (.bool true) ∧ Below w.heap.size w w' := by
  by_cases hz : nb ((leN m : Nat) : Int) = zer
  · exact fieldRules_zero l m n w hl hm hn hz
  · exact fieldRules_non l m n w hl hm hn hz

end Go.Proofs.Ytmiapjmdolecbaa
