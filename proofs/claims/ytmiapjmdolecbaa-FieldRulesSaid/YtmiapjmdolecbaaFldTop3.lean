/- The walk of the code's Inv. Each theorem names its own conditions. -/
import Derived.Test.YtmiapjmdolecbaaFldTop1
import Derived.Test.YtmiapjmdolecbaaFldJoin
namespace Go.Proofs.Ytmiapjmdolecbaa
open Go.RowKit
set_option linter.unusedVariables false
set_option linter.unusedSimpArgs false

set_option maxRecDepth 100000 in
set_option maxHeartbeats 4000000 in
theorem Inv_num (l : List UInt8) (w : World) (hl : l.length = 32) :
    Calls Try.prog 22 #[.agg (l.map bval).toArray] w fun e w' => e = .returned (numP ((leN l : Int) ^ (pP - 2).toNat)) ∧ Below w.heap.size w w' := by
  have HLl := Lib.hid hl
  have HIl : Hid ((Try.prog.info? 23).map (·.size) = some (l.map bval).length) := Lib.hid (by rw [List.length_map, hl]; exact Try.arr23)
  have HB := Lib.hid (boxes2 w (l.map bval) zero32 23 23)
  clear hl
  go_enter Try.func22, Try.ntmps22
  go_wp2_with (refine wpList_load_blk rfl _ _ rfl w.heap.size rfl _ _ _ _ HB.out.1 Try.underlying23 HIl.out ?_)
  change Calls _ _ _ ((w.alloc (.cells (l.map bval).toArray 23)).alloc (.cells zero32.toArray 23)) _
  generalize (w.alloc (.cells (l.map bval).toArray 23)).alloc (.cells zero32.toArray 23) = w0 at *
  obtain ⟨h1, h2, h4⟩ := HB.out
  obtain ⟨A, hA⟩ : ∃ A, A = w.heap.size := ⟨_, rfl⟩
  rw [← hA] at h1 h2 ⊢
  have hA2 : w.heap.size ≤ A := by omega
  have H1 := Lib.hid h1
  have HR := Lib.hid h2
  have HE : Hid (Ext w w0) := Lib.hid h4
  clear h1 h2 h4 HB hA
  refine (limbsOf_any l HLl.out _).mono ?_
  rintro e w1 ⟨rfl, hb⟩
  have HR := Lib.hid (ext_blk HR.out hb)
  have HE := Lib.hid (HE.out.trans hb)
  clear hb
  obtain ⟨v1, hv⟩ : ∃ v, v = limbsL l := ⟨_, rfl⟩
  rw [← hv]
  have LT1 : Hid (v1.lt 18014398509481984) := Lib.hid (by rw [hv]; exact limbsL_lt l)
  have CV1 : Hid (Cong (v1.val : Nat) ((leN l : Int) ^ 1)) := Lib.hid (by rw [hv, ← pow1]; exact limbsL_val l HLl.out)
  clear hv
  obtain ⟨p1, hp⟩ : ∃ p, p = w1.heap.size := ⟨_, rfl⟩
  have HV1 := Lib.hid (Blk.made w1 v1.vs 41)
  have HX1 := Lib.hid (Ext.alloc w1 (.cells v1.vs.toArray 41))
  have HR := Lib.hid (ext_blk HR.out HX1.out)
  have HE := Lib.hid (HE.out.trans HX1.out)
  rw [← hp] at HV1
  clear HX1
  unfold L5.v L5.vs
  go_wp2_with fail
  rw [← hp]
  change Calls _ _ #[v1.v, v1.v] (w1.alloc (.cells v1.vs.toArray 41)) _
  generalize w1.alloc (.cells v1.vs.toArray 41) = y1 at *
  clear hp
  refine (times_any v1 v1 LT1.out LT1.out _).mono ?_
  rintro e w2 ⟨rfl, hb⟩
  have HR := Lib.hid (ext_blk HR.out hb)
  have HV1 := Lib.hid (ext_blk HV1.out hb)
  have HE := Lib.hid (HE.out.trans hb)
  clear hb
  obtain ⟨v2, hv⟩ : ∃ v, v = timesL v1 v1 := ⟨_, rfl⟩
  rw [← hv]
  have LT2 : Hid (v2.lt 18014398509481984) := Lib.hid (by rw [hv]; exact timesL_lt LT1.out LT1.out)
  have CV2 : Hid (Cong (v2.val : Nat) ((leN l : Int) ^ 2)) := Lib.hid (by rw [hv]; have := (timesL_val v1 v1).trans (CV1.out.mul CV1.out); rwa [← Int.pow_add] at this)
  clear hv
  obtain ⟨p2, hp⟩ : ∃ p, p = w2.heap.size := ⟨_, rfl⟩
  have HV2 := Lib.hid (Blk.made w2 v2.vs 41)
  have HX1 := Lib.hid (Ext.alloc w2 (.cells v2.vs.toArray 41))
  have HR := Lib.hid (ext_blk HR.out HX1.out)
  have HV1 := Lib.hid (ext_blk HV1.out HX1.out)
  have HE := Lib.hid (HE.out.trans HX1.out)
  rw [← hp] at HV2
  clear HX1
  unfold L5.v L5.vs
  go_wp2_with fail
  rw [← hp]
  change Code.wp _ _ _ _ (w2.alloc (.cells v2.vs.toArray 41))
  generalize w2.alloc (.cells v2.vs.toArray 41) = y2 at *
  clear hp
  refine wp_region_from 6 2 7 rfl (by kernel_rfl) (by kernel_rfl) (fun d v c a w h => by cases d <;> exact h) (by kernel_rfl) ?_
  refine det_load _ _ p2 v2.vs _ (by rfl) rfl rfl (fun w hw => ext_range HV2.out hw) Try.underlying41 rfl Try.arr41 ?_
  simp only [Act.put, List.setIfInBounds_toArray, List.set_cons_zero, List.set_cons_succ]
  refine det_call _ _ _ [v2.v, .int .i64 2] ((sqL v2 2).v) (by rfl) rfl Try.call36 rfl (fun w hw => squared_any v2 2 LT2.out (by omega) w) ?_
  simp only [Act.put, List.setIfInBounds_toArray, List.set_cons_zero, List.set_cons_succ]
  refine det_load _ _ p2 v2.vs _ (by rfl) rfl rfl (fun w hw => ext_range HV2.out hw) Try.underlying41 rfl Try.arr41 ?_
  simp only [Act.put, List.setIfInBounds_toArray, List.set_cons_zero, List.set_cons_succ]
  refine det_call _ _ _ [(sqL v2 2).v, v2.v] ((joinL v2 2 v2).v) (by rfl) rfl Try.call33 rfl (fun w hw => times_any (sqL v2 2) v2 (sqL_lt LT2.out 2) LT2.out w) ?_
  simp only [Act.put, List.setIfInBounds_toArray, List.set_cons_zero, List.set_cons_succ]
  refine det_load _ _ p1 v1.vs _ (by rfl) rfl rfl (fun w hw => ext_range HV1.out hw) Try.underlying41 rfl Try.arr41 ?_
  simp only [Act.put, List.setIfInBounds_toArray, List.set_cons_zero, List.set_cons_succ]
  refine det_call _ _ _ [(joinL v2 2 v2).v, v1.v] ((timesL (joinL v2 2 v2) v1).v) (by rfl) rfl Try.call33 rfl (fun w hw => times_any (joinL v2 2 v2) v1 (joinL_lt 2 LT2.out LT2.out) LT1.out w) ?_
  simp only [Act.put, List.setIfInBounds_toArray, List.set_cons_zero, List.set_cons_succ]
  refine det_nil (end_var (k := 6) _ 5 (.tmp 16) zero5 (timesL (joinL v2 2 v2) v1).vs rfl rfl (by kernel_rfl) (by kernel_rfl) (by kernel_rfl) (by kernel_rfl) (by kernel_rfl) rfl rfl rfl rfl Try.zeroValue41 rfl (by simp) (fun p => rfl) rfl Try.arr41 (L5.vs_one _) (fun p3 w3 hp3 hb3 he3 => ?_))
  simp only [Act.put, List.setIfInBounds_toArray, List.set_cons_zero, List.set_cons_succ]
  have HR := Lib.hid (ext_blk HR.out he3)
  have HV1 := Lib.hid (ext_blk HV1.out he3)
  have HV2 := Lib.hid (ext_blk HV2.out he3)
  have HE := Lib.hid (HE.out.trans he3)
  obtain ⟨v3, hv⟩ : ∃ v, v = timesL (joinL v2 2 v2) v1 := ⟨_, rfl⟩
  rw [← hv] at hb3 ⊢
  have LT3 : Hid (v3.lt 18014398509481984) := Lib.hid (by rw [hv]; exact timesL_lt (joinL_lt 2 LT2.out LT2.out) LT1.out)
  have CV3 : Hid (Cong (v3.val : Nat) ((leN l : Int) ^ 11)) := Lib.hid (by rw [hv]; have := (timesL_val (joinL v2 2 v2) v1).trans ((joinL_val 2 CV2.out CV2.out).mul CV1.out); rwa [← Int.pow_add] at this)
  clear hv
  have HV3 := Lib.hid hb3
  clear hb3 he3 hp3
  go_wp2_with fail
  refine wp_region_from 5 1 5 rfl (by kernel_rfl) (by kernel_rfl) (fun d v c a w h => by cases d <;> exact h) (by kernel_rfl) ?_
  refine det_load _ _ p1 v1.vs _ (by rfl) rfl rfl (fun w hw => ext_range HV1.out hw) Try.underlying41 rfl Try.arr41 ?_
  simp only [Act.put, List.setIfInBounds_toArray, List.set_cons_zero, List.set_cons_succ]
  refine det_call _ _ _ [v1.v] ((onesL v1).v) (by rfl) rfl Try.call38 rfl (fun w hw => ones_any v1 LT1.out w) ?_
  simp only [Act.put, List.setIfInBounds_toArray, List.set_cons_zero, List.set_cons_succ]
  refine det_load _ _ p3 v3.vs _ (by rfl) rfl rfl (fun w hw => ext_range HV3.out hw) Try.underlying41 rfl Try.arr41 ?_
  simp only [Act.put, List.setIfInBounds_toArray, List.set_cons_zero, List.set_cons_succ]
  refine det_call _ _ _ [(onesL v1).v, .int .i64 5, v3.v] ((joinL (onesL v1) 5 v3).v) (by rfl) rfl Try.call37 rfl (fun w hw => joined_any (onesL v1) 5 v3 (onesL_lt LT1.out) LT3.out (by omega) w) ?_
  simp only [Act.put, List.setIfInBounds_toArray, List.set_cons_zero, List.set_cons_succ]
  refine det_call _ _ _ [(joinL (onesL v1) 5 v3).v] (numP ((joinL (onesL v1) 5 v3).val : Nat)) (by rfl) rfl Try.call27 rfl (fun w hw => numOf_any _ ((joinL_lt 5 (onesL_lt LT1.out) LT3.out).mono (by omega)) w) ?_
  simp only [Act.put, List.setIfInBounds_toArray, List.set_cons_zero, List.set_cons_succ]
  have HV : numP ((joinL (onesL v1) 5 v3).val : Nat) = numP ((leN l : Int) ^ (pP - 2).toNat) := numP_cong (by
    have c1 : Cong (v1.val : Nat) (leN l : Int) := by have := CV1.out; rwa [← pow1] at this
    have := joinL_val 5 (onesL_val c1) CV3.out
    rwa [show (2 ^ 250 - 1) * 2 ^ 5 + 11 = (pP - 2).toNat from by decide +kernel] at this)
  rw [HV]
  refine det_nil (end_set (k := 5) _ _ _ _ (A + 1) ((nb ((leN l : Int) ^ (pP - 2).toNat)).map bval) zero32 rfl (by kernel_rfl) (by kernel_rfl) (by kernel_rfl) rfl rfl rfl rfl HR.out (nb_len _) (nb_size _) (bval_one _) (fun w8 hb8 hg8 => ?_))
  simp only [Act.put]
  go_wp2_with fail
  exact bodyPost_ret (v := numP ((leN l : Int) ^ (pP - 2).toNat)) (result_row (by rfl) _ (A + 1) _ _ _ (by rfl) hb8 Try.underlying23 rfl (nb_size _)) rfl ⟨rfl, ext_grown HE.out hg8 (by omega)⟩

end Go.Proofs.Ytmiapjmdolecbaa
