/- The walk of the code's Root. Each theorem names its own conditions. -/
import Derived.Test.YtmiapjmdolecbaaDoorFldJoin
import Derived.Test.YtmiapjmdolecbaaDoorFldTop2
import Derived.Test.YtmiapjmdolecbaaDoorFldTop4
import Derived.Test.YtmiapjmdolecbaaDoorRefPow
import Derived.Test.YtmiapjmdolecbaaDoorDetAll
import Derived.Test.YtmiapjmdolecbaaDoorFldRootM
namespace Go.Proofs.YtmiapjmdolecbaaDoor
open Go.RowKit
set_option linter.unusedVariables false
set_option linter.unusedSimpArgs false

set_option maxRecDepth 100000 in
set_option maxHeartbeats 8000000 in
theorem Root_num (l : List UInt8) (w : World) (hl : l.length = 32) :
    Calls Tryd.prog 5 #[.agg (l.map bval).toArray] w fun e w' => e = .returned (.tuple #[.agg ((rootN ((leN l : Nat) : Int)).map bval).toArray, .bool (rootB ((leN l : Nat) : Int))]) ∧ Below w.heap.size w w' := by
  obtain ⟨C, hC⟩ : ∃ c, c = ((leN l : Nat) : Int) ^ pE := ⟨_, rfl⟩
  obtain ⟨R, hRD⟩ : ∃ r, r = rootR ((leN l : Nat) : Int) := ⟨_, rfl⟩
  have HRT : Hid (nb (C * C) = nb ((leN l : Nat) : Int) → R = C) := Lib.hid (fun h => by rw [hRD, hC]; rw [hC] at h; exact if_pos h)
  have HRF : Hid (¬ nb (C * C) = nb ((leN l : Nat) : Int) → R = C * sm1) := Lib.hid (fun h => by rw [hRD, hC]; rw [hC] at h; exact if_neg h)
  have HC := Lib.hid hC
  have HRD := Lib.hid hRD
  clear hC hRD
  have HLl := Lib.hid hl
  have HIl : Hid ((Tryd.prog.info? 23).map (·.size) = some (l.map bval).length) := Lib.hid (by rw [List.length_map, hl]; exact Tryd.arr23)
  have HB := Lib.hid (boxes2 w (l.map bval) zero32 23 23)
  clear hl
  go_enter Tryd.func5, Tryd.ntmps5
  go_wp2_with (refine wpList_load_blk rfl _ _ rfl w.heap.size rfl _ _ _ _ HB.out.1 Tryd.underlying23 HIl.out ?_)
  change Calls _ _ _ ((w.alloc (.cells (l.map bval).toArray 23)).alloc (.cells zero32.toArray 23)) _
  generalize (w.alloc (.cells (l.map bval).toArray 23)).alloc (.cells zero32.toArray 23) = w0 at *
  obtain ⟨h1, h2, h4⟩ := HB.out
  obtain ⟨A, hA⟩ : ∃ A, A = w.heap.size := ⟨_, rfl⟩
  rw [← hA] at h1 h2 ⊢
  have hA2 : w.heap.size ≤ A := by omega
  have H1 := Lib.hid h1
  have HR := Lib.hid h2
  have HE : Hid (Ext w w0) := Lib.hid h4
  clear h1 h2 h4 HB hA
  refine (limbsOf_any l HLl.out _).mono ?_
  rintro e w1 ⟨rfl, hb⟩
  have HR := Lib.hid (ext_blk HR.out hb)
  have HE := Lib.hid (HE.out.trans hb)
  clear hb
  obtain ⟨v1, hv⟩ : ∃ v, v = limbsL l := ⟨_, rfl⟩
  rw [← hv]
  have LT1 : Hid (v1.lt 18014398509481984) := Lib.hid (by rw [hv]; exact limbsL_lt l)
  have CV1 : Hid (Cong (v1.val : Nat) ((leN l : Nat) : Int)) := Lib.hid (by rw [hv]; exact limbsL_val l HLl.out)
  clear hv
  obtain ⟨p1, hp⟩ : ∃ p, p = w1.heap.size := ⟨_, rfl⟩
  have HV1 := Lib.hid (Blk.made w1 v1.vs 33)
  have HRW1 := HR.out.lt
  have HX1 := Lib.hid (Ext.alloc w1 (.cells v1.vs.toArray 33))
  have HR := Lib.hid (ext_blk HR.out HX1.out)
  have HE := Lib.hid (HE.out.trans HX1.out)
  have hAp1 : A + 1 < p1 := by omega
  clear HRW1
  rw [← hp] at HV1
  clear HX1
  unfold L5.v L5.vs
  go_wp2_with fail
  rw [← hp]
  change Calls _ _ #[v1.v] (w1.alloc (.cells v1.vs.toArray 33)) _
  generalize w1.alloc (.cells v1.vs.toArray 33) = y1 at *
  clear hp
  refine (numOf_any v1 (LT1.out.mono (by omega)) _).mono ?_
  rintro e w2 ⟨rfl, hb⟩
  have HR := Lib.hid (ext_blk HR.out hb)
  have HV1 := Lib.hid (ext_blk HV1.out hb)
  have HE := Lib.hid (HE.out.trans hb)
  clear hb
  rw [numP_cong CV1.out]
  have HQ0 := Lib.hid (Blk.made w2 zero32 23)
  have HX := Lib.hid (Ext.alloc w2 (.cells zero32.toArray 23))
  have HKR := Lib.hid (ext_blk HR.out HX.out)
  have HKV := Lib.hid (ext_blk HV1.out HX.out)
  have HP1 := Lib.hid (HV1.out.lt)
  go_wp2_with (refine wpList_store_blk rfl _ _ _ rfl w2.heap.size ((nb ((leN l : Nat) : Int)).map bval) rfl rfl _ _ HQ0.out (nb_len _) (nb_size _) (bval_one _) ?_; intro w3 hb3 hg3)
  obtain ⟨q, hq⟩ : ∃ q, q = w2.heap.size := ⟨_, rfl⟩
  have hpq : p1 < q := by have := HP1.out; omega
  have hqw : w.heap.size ≤ q := by omega
  rw [← hq] at hb3 hg3 ⊢
  have HR := Lib.hid (HKR.out.grown hg3 (by simp; omega))
  have HV1 := Lib.hid (HKV.out.grown hg3 (by simp; omega))
  have HE := Lib.hid (ext_grown (HE.out.trans HX.out) hg3 hqw)
  have HQ := Lib.hid hb3
  clear hb3 hg3 hq HKR HKV HX HQ0 HP1
  go_wp2_with fail
  refine wp_region_from 6 2 7 rfl (by kernel_rfl) (by kernel_rfl) (fun d v c a w h => by cases d <;> exact h) (by kernel_rfl) ?_
  refine det_load _ _ p1 v1.vs _ (by rfl) rfl rfl (fun w hw => ext_range HV1.out hw) Tryd.underlying33 rfl Tryd.arr33 ?_
  simp only [Act.put, List.setIfInBounds_toArray, List.set_cons_zero, List.set_cons_succ]
  refine det_call _ _ _ [v1.v] ((onesL v1).v) (by rfl) rfl Tryd.call15 rfl (fun w hw => ones_any v1 LT1.out w) ?_
  simp only [Act.put, List.setIfInBounds_toArray, List.set_cons_zero, List.set_cons_succ]
  refine det_load _ _ p1 v1.vs _ (by rfl) rfl rfl (fun w hw => ext_range HV1.out hw) Tryd.underlying33 rfl Tryd.arr33 ?_
  simp only [Act.put, List.setIfInBounds_toArray, List.set_cons_zero, List.set_cons_succ]
  refine det_load _ _ p1 v1.vs _ (by rfl) rfl rfl (fun w hw => ext_range HV1.out hw) Tryd.underlying33 rfl Tryd.arr33 ?_
  simp only [Act.put, List.setIfInBounds_toArray, List.set_cons_zero, List.set_cons_succ]
  refine det_call _ _ _ [v1.v, v1.v] ((timesL v1 v1).v) (by rfl) rfl Tryd.call16 rfl (fun w hw => times_any v1 v1 LT1.out LT1.out w) ?_
  simp only [Act.put, List.setIfInBounds_toArray, List.set_cons_zero, List.set_cons_succ]
  refine det_call _ _ _ [(onesL v1).v, .int .i64 2, (timesL v1 v1).v] ((joinL (onesL v1) 2 (timesL v1 v1)).v) (by rfl) rfl Tryd.call14 rfl (fun w hw => joined_any (onesL v1) 2 (timesL v1 v1) (onesL_lt LT1.out) (timesL_lt LT1.out LT1.out) (by omega) w) ?_
  simp only [Act.put, List.setIfInBounds_toArray, List.set_cons_zero, List.set_cons_succ]
  refine det_nil (end_var (k := 6) _ 6 (.tmp 17) zero5 (joinL (onesL v1) 2 (timesL v1 v1)).vs rfl rfl (by kernel_rfl) (by kernel_rfl) (by kernel_rfl) (by kernel_rfl) (by kernel_rfl) rfl rfl rfl rfl Tryd.zeroValue33 rfl (by simp) (fun p => rfl) rfl Tryd.arr33 (L5.vs_one _) (fun p6 w4 hp6 hb4 he4 => ?_))
  simp only [Act.put, List.setIfInBounds_toArray, List.set_cons_zero, List.set_cons_succ]
  have HRW := Lib.hid (HR.out.lt)
  have HQW := Lib.hid (HQ.out.lt)
  have HR := Lib.hid (ext_blk HR.out he4)
  have HV1 := Lib.hid (ext_blk HV1.out he4)
  have HQ := Lib.hid (ext_blk HQ.out he4)
  have hp6q : q < p6 := by have := HQW.out; omega
  have hp6R : A + 1 < p6 := by have := HRW.out; omega
  have HE := Lib.hid (HE.out.trans he4)
  obtain ⟨v6, hv⟩ : ∃ v, v = joinL (onesL v1) 2 (timesL v1 v1) := ⟨_, rfl⟩
  rw [← hv] at hb4 ⊢
  have LT6 : Hid (v6.lt 18014398509481984) := Lib.hid (by rw [hv]; exact joinL_lt 2 (onesL_lt LT1.out) (timesL_lt LT1.out LT1.out))
  have CV6 : Hid (Cong (v6.val : Nat) C) := Lib.hid (by
    rw [hv, HC.out]
    have h2 : Cong ((timesL v1 v1).val : Nat) (((leN l : Nat) : Int) ^ 2) := by have := (timesL_val v1 v1).trans (CV1.out.mul CV1.out); rwa [show ((leN l : Nat) : Int) * ((leN l : Nat) : Int) = ((leN l : Nat) : Int) ^ 2 from by rw [Int.pow_succ, ← pow1]] at this
    have := joinL_val 2 (onesL_val CV1.out) h2
    rwa [show (2 ^ 250 - 1) * 2 ^ 2 + 2 = pE from by decide +kernel] at this)
  clear hv
  have HV6 := Lib.hid hb4
  clear hb4 he4 HRW HQW
  have HS1 : Hid (nb ((timesL v6 v6).val : Nat) = nb (C * C)) := Lib.hid (nb_cong ((timesL_val v6 v6).trans (CV6.out.mul CV6.out)))
  by_cases h1 : nb (C * C) = nb ((leN l : Nat) : Int)
  · go_wp2_with fail
    refine wp_region_all (by kernel_rfl) (by kernel_rfl) ?_
    refine det_load _ _ p6 v6.vs _ (by rfl) rfl rfl (fun w hw => ext_range HV6.out hw) Tryd.underlying33 rfl Tryd.arr33 ?_
    simp only [Act.put, List.setIfInBounds_toArray, List.set_cons_zero, List.set_cons_succ]
    refine det_load _ _ p6 v6.vs _ (by rfl) rfl rfl (fun w hw => ext_range HV6.out hw) Tryd.underlying33 rfl Tryd.arr33 ?_
    simp only [Act.put, List.setIfInBounds_toArray, List.set_cons_zero, List.set_cons_succ]
    refine det_call _ _ _ [v6.v, v6.v] ((timesL v6 v6).v) (by rfl) rfl Tryd.call16 rfl (fun w hw => times_any v6 v6 LT6.out LT6.out w) ?_
    simp only [Act.put, List.setIfInBounds_toArray, List.set_cons_zero, List.set_cons_succ]
    refine det_call _ _ _ [(timesL v6 v6).v] (.agg ((nb ((timesL v6 v6).val : Nat)).map bval).toArray) (by rfl) rfl Tryd.call13 rfl (fun w hw => numOf_any _ ((timesL_lt LT6.out LT6.out).mono (by omega)) w) ?_
    simp only [Act.put, List.setIfInBounds_toArray, List.set_cons_zero, List.set_cons_succ]
    refine det_load _ _ q ((nb ((leN l : Nat) : Int)).map bval) _ (by rfl) rfl rfl (fun w hw => ext_range HQ.out hw) Tryd.underlying23 rfl (nb_size _) ?_
    simp only [Act.put, List.setIfInBounds_toArray, List.set_cons_zero, List.set_cons_succ]
    refine det_eql _ _ _ _ _ _ 32 _ (nb ((timesL v6 v6).val : Nat)) (nb ((leN l : Nat) : Int)) false (by rfl) rfl (Or.inr ⟨rfl, decide_eq_true (by rw [HS1.out]; exact h1)⟩) Tryd.underlying23 Tryd.underlying5 num_info num_cells num_guard rfl rfl (nb_length _) (nb_length _) ?_
    simp only [Act.put, List.setIfInBounds_toArray, List.set_cons_zero, List.set_cons_succ]
    refine det_nil (fun w2 hw2 => ?_)
    have HR := Lib.hid (ext_blk HR.out hw2)
    have HQ := Lib.hid (ext_blk HQ.out hw2)
    have HV6 := Lib.hid (ext_blk HV6.out hw2)
    have HE := Lib.hid (HE.out.trans hw2)
    clear hw2
    have hR := HRT.out h1
    have CVR : Hid (Cong (v6.val : Nat) (R)) := Lib.hid (by rw [hR]; exact CV6.out)
    have LTR := LT6
    clear hR
    clear HS1
    obtain ⟨rr, hrr⟩ : ∃ r, r = v6 := ⟨_, rfl⟩
    rw [← hrr] at HV6 CVR LTR
    clear hrr
    have HS2 : Hid (nb ((timesL rr rr).val : Nat) = nb (R * R)) := Lib.hid (nb_cong ((timesL_val rr rr).trans (CVR.out.mul CVR.out)))
    clear CV1 LT1 HV1
    by_cases h2 : nb (R * R) = nb ((leN l : Nat) : Int)
    · go_wp2_with fail
      refine wp_region_all (by kernel_rfl) (by kernel_rfl) ?_
      refine det_load _ _ p6 rr.vs _ (by rfl) rfl rfl (fun w hw => ext_range HV6.out hw) Tryd.underlying33 rfl Tryd.arr33 ?_
      simp only [Act.put, List.setIfInBounds_toArray, List.set_cons_zero, List.set_cons_succ]
      refine det_load _ _ p6 rr.vs _ (by rfl) rfl rfl (fun w hw => ext_range HV6.out hw) Tryd.underlying33 rfl Tryd.arr33 ?_
      simp only [Act.put, List.setIfInBounds_toArray, List.set_cons_zero, List.set_cons_succ]
      refine det_call _ _ _ [rr.v, rr.v] ((timesL rr rr).v) (by rfl) rfl Tryd.call16 rfl (fun w hw => times_any rr rr LTR.out LTR.out w) ?_
      simp only [Act.put, List.setIfInBounds_toArray, List.set_cons_zero, List.set_cons_succ]
      refine det_call _ _ _ [(timesL rr rr).v] (.agg ((nb ((timesL rr rr).val : Nat)).map bval).toArray) (by rfl) rfl Tryd.call13 rfl (fun w hw => numOf_any _ ((timesL_lt LTR.out LTR.out).mono (by omega)) w) ?_
      simp only [Act.put, List.setIfInBounds_toArray, List.set_cons_zero, List.set_cons_succ]
      refine det_load _ _ q ((nb ((leN l : Nat) : Int)).map bval) _ (by rfl) rfl rfl (fun w hw => ext_range HQ.out hw) Tryd.underlying23 rfl (nb_size _) ?_
      simp only [Act.put, List.setIfInBounds_toArray, List.set_cons_zero, List.set_cons_succ]
      refine det_eql _ _ _ _ _ _ 32 _ (nb ((timesL rr rr).val : Nat)) (nb ((leN l : Nat) : Int)) false (by rfl) rfl (Or.inr ⟨rfl, decide_eq_true (by rw [HS2.out]; exact h2)⟩) Tryd.underlying23 Tryd.underlying5 num_info num_cells num_guard rfl rfl (nb_length _) (nb_length _) ?_
      simp only [Act.put, List.setIfInBounds_toArray, List.set_cons_zero, List.set_cons_succ]
      refine det_nil (fun w2 hw2 => ?_)
      have HR := Lib.hid (ext_blk HR.out hw2)
      have HQ := Lib.hid (ext_blk HQ.out hw2)
      have HV6 := Lib.hid (ext_blk HV6.out hw2)
      have HE := Lib.hid (HE.out.trans hw2)
      clear hw2
      have HNR := Lib.hid (numOf_any rr (LTR.out.mono (by omega)))
      go_wp2_with (refine wpList_load_blk rfl _ _ rfl p6 rfl _ _ _ _ HV6.out Tryd.underlying33 Tryd.arr33 ?_)
      refine (HNR.out _).mono ?_
      rintro e w7 ⟨rfl, hb⟩
      have HR := Lib.hid (ext_blk HR.out hb)
      have HE := Lib.hid (HE.out.trans hb)
      clear hb HNR
      rw [numP_cong CVR.out]
      have HO0 := Lib.hid (Blk.made w7 zero32 23)
      have HX := Lib.hid (Ext.alloc w7 (.cells zero32.toArray 23))
      have HKR := Lib.hid (ext_blk HR.out HX.out)
      have HRW := Lib.hid (HR.out.lt)
      go_wp2_with (refine wpList_store_blk rfl _ _ _ rfl w7.heap.size ((nb (R)).map bval) rfl rfl _ _ HO0.out (nb_len _) (nb_size _) (bval_one _) ?_; intro w8 hb8 hg8)
      obtain ⟨o, ho⟩ : ∃ q, q = w7.heap.size := ⟨_, rfl⟩
      have hoR : A + 1 < o := by have := HRW.out; omega
      rw [← ho] at hb8 hg8 ⊢
      have HR := Lib.hid (HKR.out.grown hg8 (by simp; omega))
      have HE := Lib.hid (ext_grown (HE.out.trans HX.out) hg8 (by omega))
      have HO := Lib.hid hb8
      clear hb8 hg8 ho HKR HX HO0 HRW
      refine wp_region_from 9 2 9 rfl (by kernel_rfl) (by kernel_rfl) (fun d v c a w h => by cases d <;> exact h) (by kernel_rfl) ?_
      refine det_load _ _ o ((nb (R)).map bval) _ (by rfl) rfl rfl (fun w hw => ext_range HO.out hw) Tryd.underlying23 rfl (nb_size _) ?_
      simp only [Act.put, List.setIfInBounds_toArray, List.set_cons_zero, List.set_cons_succ]
      refine det_val (.agg (zer.map bval).toArray) (by rfl) (fun w hw => by unfold execOp; simp [build_zer]) ?_
      simp only [Act.put, List.setIfInBounds_toArray, List.set_cons_zero, List.set_cons_succ]
      refine det_load _ _ o ((nb (R)).map bval) _ (by rfl) rfl rfl (fun w hw => ext_range HO.out hw) Tryd.underlying23 rfl (nb_size _) ?_
      simp only [Act.put, List.setIfInBounds_toArray, List.set_cons_zero, List.set_cons_succ]
      refine det_call _ _ _ [.agg (zer.map bval).toArray, .agg ((nb (R)).map bval).toArray] (.agg ((nb (((leN zer : Nat) : Int) - ((leN (nb (R)) : Nat) : Int))).map bval).toArray) (by rfl) rfl Tryd.call9 rfl (fun w hw => Sub_num zer (nb (R)) w zer_length (nb_length _)) ?_
      simp only [Act.put, List.setIfInBounds_toArray, List.set_cons_zero, List.set_cons_succ]
      refine det_index _ _ _ _ o 32 0 (by rfl) rfl rfl rfl Tryd.underlying23 (by omega) (Tryd.sizeOf5) ?_
      simp only [Act.put, List.setIfInBounds_toArray, List.set_cons_zero, List.set_cons_succ]
      refine det_cell _ _ o 0 (.int .u8 ((((nb (R)).getD 0 0) : UInt8).toNat : Int)) (by rfl) rfl rfl (fun w hw => ((ext_blk HO.out hw).cell 0).trans (bval_get (by rw [nb_length]; omega))) (Tryd.isAgg5) ?_
      simp only [Act.put, List.setIfInBounds_toArray, List.set_cons_zero, List.set_cons_succ]
      refine det_and _ _ _ _ _ _ _ ((((nb (R)).getD 0 0).toNat % 2 : Nat) : Int) (by rfl) rfl rfl rfl (andU1 _) ?_
      simp only [Act.put, List.setIfInBounds_toArray, List.set_cons_zero, List.set_cons_succ]
      refine det_val (.bool (decide (((nb (R)).getD 0 0).toNat % 2 = 1))) (by rfl) (fun w hw => byte_odd _ rfl rfl rfl) ?_
      simp only [Act.put, List.setIfInBounds_toArray, List.set_cons_zero, List.set_cons_succ]
      refine det_call _ _ _ [.agg ((nb (R)).map bval).toArray, .agg ((nb (((leN zer : Nat) : Int) - ((leN (nb (R)) : Nat) : Int))).map bval).toArray, .bool (decide (((nb (R)).getD 0 0).toNat % 2 = 1))] (.agg ((if (decide (((nb (R)).getD 0 0).toNat % 2 = 1)) then (nb (((leN zer : Nat) : Int) - ((leN (nb (R)) : Nat) : Int))) else (nb (R))).map bval).toArray) (by rfl) rfl Tryd.call18 rfl (fun w hw => Pick_num (nb (R)) (nb (((leN zer : Nat) : Int) - ((leN (nb (R)) : Nat) : Int))) (decide (((nb (R)).getD 0 0).toNat % 2 = 1)) w (nb_length _) (nb_length _)) ?_
      simp only [Act.put, List.setIfInBounds_toArray, List.set_cons_zero, List.set_cons_succ]
      refine det_nil (end_set_assign (k := 9) _ _ _ _ _ 3 (.bool true) (A + 1) ((if (decide (((nb (R)).getD 0 0).toNat % 2 = 1)) then (nb (((leN zer : Nat) : Int) - ((leN (nb (R)) : Nat) : Int))) else (nb (R))).map bval) zero32 rfl rfl (by kernel_rfl) (by kernel_rfl) (by kernel_rfl) (by kernel_rfl) rfl rfl rfl rfl rfl rfl HR.out (pick_len _ _ _) (pick_size _ _ _) (bval_one _) rfl rfl rfl (fun w9 hb9 hg9 => ?_))
      simp only [Act.put, List.setIfInBounds_toArray, List.set_cons_zero, List.set_cons_succ]
      rw [rootN_true2 HRD.out h2] at hb9 ⊢
      go_wp2_with fail
      exact bodyPost_ret (result_row_tmp (p := 2) (u := 3) (by rfl) _ (A + 1) _ _ _ (by rfl) hb9 Tryd.underlying23 rfl (rootN_size _)) rfl ⟨by rw [rootB_true2 HRD.out h2]; rfl, ext_grown HE.out hg9 (by omega)⟩
    · go_wp2_with fail
      refine wp_region_all (by kernel_rfl) (by kernel_rfl) ?_
      refine det_load _ _ p6 rr.vs _ (by rfl) rfl rfl (fun w hw => ext_range HV6.out hw) Tryd.underlying33 rfl Tryd.arr33 ?_
      simp only [Act.put, List.setIfInBounds_toArray, List.set_cons_zero, List.set_cons_succ]
      refine det_load _ _ p6 rr.vs _ (by rfl) rfl rfl (fun w hw => ext_range HV6.out hw) Tryd.underlying33 rfl Tryd.arr33 ?_
      simp only [Act.put, List.setIfInBounds_toArray, List.set_cons_zero, List.set_cons_succ]
      refine det_call _ _ _ [rr.v, rr.v] ((timesL rr rr).v) (by rfl) rfl Tryd.call16 rfl (fun w hw => times_any rr rr LTR.out LTR.out w) ?_
      simp only [Act.put, List.setIfInBounds_toArray, List.set_cons_zero, List.set_cons_succ]
      refine det_call _ _ _ [(timesL rr rr).v] (.agg ((nb ((timesL rr rr).val : Nat)).map bval).toArray) (by rfl) rfl Tryd.call13 rfl (fun w hw => numOf_any _ ((timesL_lt LTR.out LTR.out).mono (by omega)) w) ?_
      simp only [Act.put, List.setIfInBounds_toArray, List.set_cons_zero, List.set_cons_succ]
      refine det_load _ _ q ((nb ((leN l : Nat) : Int)).map bval) _ (by rfl) rfl rfl (fun w hw => ext_range HQ.out hw) Tryd.underlying23 rfl (nb_size _) ?_
      simp only [Act.put, List.setIfInBounds_toArray, List.set_cons_zero, List.set_cons_succ]
      refine det_eql _ _ _ _ _ _ 32 _ (nb ((timesL rr rr).val : Nat)) (nb ((leN l : Nat) : Int)) true (by rfl) rfl (Or.inr ⟨rfl, decide_eq_false (by rw [HS2.out]; exact h2)⟩) Tryd.underlying23 Tryd.underlying5 num_info num_cells num_guard rfl rfl (nb_length _) (nb_length _) ?_
      simp only [Act.put, List.setIfInBounds_toArray, List.set_cons_zero, List.set_cons_succ]
      refine det_nil (fun w2 hw2 => ?_)
      have HR := Lib.hid (ext_blk HR.out hw2)
      have HQ := Lib.hid (ext_blk HQ.out hw2)
      have HV6 := Lib.hid (ext_blk HV6.out hw2)
      have HE := Lib.hid (HE.out.trans hw2)
      clear hw2
      have HZ1 : Hid (zer.map bval = zero32) := Lib.hid zer_zero32
      go_wp2_with (refine wpList_store_blk rfl _ _ _ rfl (A + 1) zero32 rfl rfl _ _ HR.out rfl Tryd.arr23 (ints_one _ _) ?_; intro w5 hb5 hg5)
      rw [← HZ1.out] at hb5
      exact bodyPost_ret (result_row_tmp (p := 2) (u := 3) (by rfl) _ (A + 1) _ _ _ (by rfl) hb5 Tryd.underlying23 rfl zer_size) rfl ⟨by rw [rootN_false2 HRD.out h2, rootB_false2 HRD.out h2]; rfl, ext_grown HE.out hg5 (by omega)⟩
  · go_wp2_with fail
    refine wp_region_all (by kernel_rfl) (by kernel_rfl) ?_
    refine det_load _ _ p6 v6.vs _ (by rfl) rfl rfl (fun w hw => ext_range HV6.out hw) Tryd.underlying33 rfl Tryd.arr33 ?_
    simp only [Act.put, List.setIfInBounds_toArray, List.set_cons_zero, List.set_cons_succ]
    refine det_load _ _ p6 v6.vs _ (by rfl) rfl rfl (fun w hw => ext_range HV6.out hw) Tryd.underlying33 rfl Tryd.arr33 ?_
    simp only [Act.put, List.setIfInBounds_toArray, List.set_cons_zero, List.set_cons_succ]
    refine det_call _ _ _ [v6.v, v6.v] ((timesL v6 v6).v) (by rfl) rfl Tryd.call16 rfl (fun w hw => times_any v6 v6 LT6.out LT6.out w) ?_
    simp only [Act.put, List.setIfInBounds_toArray, List.set_cons_zero, List.set_cons_succ]
    refine det_call _ _ _ [(timesL v6 v6).v] (.agg ((nb ((timesL v6 v6).val : Nat)).map bval).toArray) (by rfl) rfl Tryd.call13 rfl (fun w hw => numOf_any _ ((timesL_lt LT6.out LT6.out).mono (by omega)) w) ?_
    simp only [Act.put, List.setIfInBounds_toArray, List.set_cons_zero, List.set_cons_succ]
    refine det_load _ _ q ((nb ((leN l : Nat) : Int)).map bval) _ (by rfl) rfl rfl (fun w hw => ext_range HQ.out hw) Tryd.underlying23 rfl (nb_size _) ?_
    simp only [Act.put, List.setIfInBounds_toArray, List.set_cons_zero, List.set_cons_succ]
    refine det_eql _ _ _ _ _ _ 32 _ (nb ((timesL v6 v6).val : Nat)) (nb ((leN l : Nat) : Int)) true (by rfl) rfl (Or.inr ⟨rfl, decide_eq_false (by rw [HS1.out]; exact h1)⟩) Tryd.underlying23 Tryd.underlying5 num_info num_cells num_guard rfl rfl (nb_length _) (nb_length _) ?_
    simp only [Act.put, List.setIfInBounds_toArray, List.set_cons_zero, List.set_cons_succ]
    refine det_nil (fun w2 hw2 => ?_)
    have HR := Lib.hid (ext_blk HR.out hw2)
    have HQ := Lib.hid (ext_blk HQ.out hw2)
    have HV6 := Lib.hid (ext_blk HV6.out hw2)
    have HE := Lib.hid (HE.out.trans hw2)
    clear hw2
    have hR := HRF.out h1
    go_wp2_with fail
    refine wp_region_from 3 1 3 rfl (by kernel_rfl) (by kernel_rfl) (fun d v c a w h => by cases d <;> exact h) (by kernel_rfl) ?_
    refine det_load _ _ p6 v6.vs _ (by rfl) rfl rfl (fun w hw => ext_range HV6.out hw) Tryd.underlying33 rfl Tryd.arr33 ?_
    simp only [Act.put, List.setIfInBounds_toArray, List.set_cons_zero, List.set_cons_succ]
    refine det_call _ _ _ [] (rootL.v) (by rfl) rfl Tryd.call17 rfl (fun w hw => rootOf_any w) ?_
    simp only [Act.put, List.setIfInBounds_toArray, List.set_cons_zero, List.set_cons_succ]
    refine det_call _ _ _ [v6.v, rootL.v] ((timesL v6 rootL).v) (by rfl) rfl Tryd.call16 rfl (fun w hw => times_any v6 rootL LT6.out rootL_lt w) ?_
    simp only [Act.put, List.setIfInBounds_toArray, List.set_cons_zero, List.set_cons_succ]
    refine det_nil (end_set (k := 3) _ _ _ _ p6 (timesL v6 rootL).vs v6.vs rfl (by kernel_rfl) (by kernel_rfl) (by kernel_rfl) rfl rfl rfl rfl HV6.out (vs_len _ _) Tryd.arr33 (L5.vs_one _) (fun w5 hb5 hg5 => ?_))
    simp only [Act.put, List.setIfInBounds_toArray, List.set_cons_zero, List.set_cons_succ]
    have HR := Lib.hid (HR.out.grown hg5 (by simp; omega))
    have HQ := Lib.hid (HQ.out.grown hg5 (by simp; omega))
    have HE := Lib.hid (ext_grown HE.out hg5 (by omega))
    have HV6 := Lib.hid hb5
    clear hb5 hg5
    have CVR : Hid (Cong ((timesL v6 rootL).val : Nat) (R)) := Lib.hid (by rw [hR]; have := (timesL_val v6 rootL).trans (CV6.out.mul (Cong.refl _)); rwa [rootL_val] at this)
    have LTR : Hid ((timesL v6 rootL).lt 18014398509481984) := Lib.hid (timesL_lt LT6.out rootL_lt)
    clear hR HS1
    generalize timesL v6 rootL = rr at *
    have HS2 : Hid (nb ((timesL rr rr).val : Nat) = nb (R * R)) := Lib.hid (nb_cong ((timesL_val rr rr).trans (CVR.out.mul CVR.out)))
    clear CV1 LT1 HV1
    by_cases h2 : nb (R * R) = nb ((leN l : Nat) : Int)
    · go_wp2_with fail
      refine wp_region_all (by kernel_rfl) (by kernel_rfl) ?_
      refine det_load _ _ p6 rr.vs _ (by rfl) rfl rfl (fun w hw => ext_range HV6.out hw) Tryd.underlying33 rfl Tryd.arr33 ?_
      simp only [Act.put, List.setIfInBounds_toArray, List.set_cons_zero, List.set_cons_succ]
      refine det_load _ _ p6 rr.vs _ (by rfl) rfl rfl (fun w hw => ext_range HV6.out hw) Tryd.underlying33 rfl Tryd.arr33 ?_
      simp only [Act.put, List.setIfInBounds_toArray, List.set_cons_zero, List.set_cons_succ]
      refine det_call _ _ _ [rr.v, rr.v] ((timesL rr rr).v) (by rfl) rfl Tryd.call16 rfl (fun w hw => times_any rr rr LTR.out LTR.out w) ?_
      simp only [Act.put, List.setIfInBounds_toArray, List.set_cons_zero, List.set_cons_succ]
      refine det_call _ _ _ [(timesL rr rr).v] (.agg ((nb ((timesL rr rr).val : Nat)).map bval).toArray) (by rfl) rfl Tryd.call13 rfl (fun w hw => numOf_any _ ((timesL_lt LTR.out LTR.out).mono (by omega)) w) ?_
      simp only [Act.put, List.setIfInBounds_toArray, List.set_cons_zero, List.set_cons_succ]
      refine det_load _ _ q ((nb ((leN l : Nat) : Int)).map bval) _ (by rfl) rfl rfl (fun w hw => ext_range HQ.out hw) Tryd.underlying23 rfl (nb_size _) ?_
      simp only [Act.put, List.setIfInBounds_toArray, List.set_cons_zero, List.set_cons_succ]
      refine det_eql _ _ _ _ _ _ 32 _ (nb ((timesL rr rr).val : Nat)) (nb ((leN l : Nat) : Int)) false (by rfl) rfl (Or.inr ⟨rfl, decide_eq_true (by rw [HS2.out]; exact h2)⟩) Tryd.underlying23 Tryd.underlying5 num_info num_cells num_guard rfl rfl (nb_length _) (nb_length _) ?_
      simp only [Act.put, List.setIfInBounds_toArray, List.set_cons_zero, List.set_cons_succ]
      refine det_nil (fun w2 hw2 => ?_)
      have HR := Lib.hid (ext_blk HR.out hw2)
      have HQ := Lib.hid (ext_blk HQ.out hw2)
      have HV6 := Lib.hid (ext_blk HV6.out hw2)
      have HE := Lib.hid (HE.out.trans hw2)
      clear hw2
      have HNR := Lib.hid (numOf_any rr (LTR.out.mono (by omega)))
      go_wp2_with (refine wpList_load_blk rfl _ _ rfl p6 rfl _ _ _ _ HV6.out Tryd.underlying33 Tryd.arr33 ?_)
      refine (HNR.out _).mono ?_
      rintro e w7 ⟨rfl, hb⟩
      have HR := Lib.hid (ext_blk HR.out hb)
      have HE := Lib.hid (HE.out.trans hb)
      clear hb HNR
      rw [numP_cong CVR.out]
      have HO0 := Lib.hid (Blk.made w7 zero32 23)
      have HX := Lib.hid (Ext.alloc w7 (.cells zero32.toArray 23))
      have HKR := Lib.hid (ext_blk HR.out HX.out)
      have HRW := Lib.hid (HR.out.lt)
      go_wp2_with (refine wpList_store_blk rfl _ _ _ rfl w7.heap.size ((nb (R)).map bval) rfl rfl _ _ HO0.out (nb_len _) (nb_size _) (bval_one _) ?_; intro w8 hb8 hg8)
      obtain ⟨o, ho⟩ : ∃ q, q = w7.heap.size := ⟨_, rfl⟩
      have hoR : A + 1 < o := by have := HRW.out; omega
      rw [← ho] at hb8 hg8 ⊢
      have HR := Lib.hid (HKR.out.grown hg8 (by simp; omega))
      have HE := Lib.hid (ext_grown (HE.out.trans HX.out) hg8 (by omega))
      have HO := Lib.hid hb8
      clear hb8 hg8 ho HKR HX HO0 HRW
      refine wp_region_from 9 2 9 rfl (by kernel_rfl) (by kernel_rfl) (fun d v c a w h => by cases d <;> exact h) (by kernel_rfl) ?_
      refine det_load _ _ o ((nb (R)).map bval) _ (by rfl) rfl rfl (fun w hw => ext_range HO.out hw) Tryd.underlying23 rfl (nb_size _) ?_
      simp only [Act.put, List.setIfInBounds_toArray, List.set_cons_zero, List.set_cons_succ]
      refine det_val (.agg (zer.map bval).toArray) (by rfl) (fun w hw => by unfold execOp; simp [build_zer]) ?_
      simp only [Act.put, List.setIfInBounds_toArray, List.set_cons_zero, List.set_cons_succ]
      refine det_load _ _ o ((nb (R)).map bval) _ (by rfl) rfl rfl (fun w hw => ext_range HO.out hw) Tryd.underlying23 rfl (nb_size _) ?_
      simp only [Act.put, List.setIfInBounds_toArray, List.set_cons_zero, List.set_cons_succ]
      refine det_call _ _ _ [.agg (zer.map bval).toArray, .agg ((nb (R)).map bval).toArray] (.agg ((nb (((leN zer : Nat) : Int) - ((leN (nb (R)) : Nat) : Int))).map bval).toArray) (by rfl) rfl Tryd.call9 rfl (fun w hw => Sub_num zer (nb (R)) w zer_length (nb_length _)) ?_
      simp only [Act.put, List.setIfInBounds_toArray, List.set_cons_zero, List.set_cons_succ]
      refine det_index _ _ _ _ o 32 0 (by rfl) rfl rfl rfl Tryd.underlying23 (by omega) (Tryd.sizeOf5) ?_
      simp only [Act.put, List.setIfInBounds_toArray, List.set_cons_zero, List.set_cons_succ]
      refine det_cell _ _ o 0 (.int .u8 ((((nb (R)).getD 0 0) : UInt8).toNat : Int)) (by rfl) rfl rfl (fun w hw => ((ext_blk HO.out hw).cell 0).trans (bval_get (by rw [nb_length]; omega))) (Tryd.isAgg5) ?_
      simp only [Act.put, List.setIfInBounds_toArray, List.set_cons_zero, List.set_cons_succ]
      refine det_and _ _ _ _ _ _ _ ((((nb (R)).getD 0 0).toNat % 2 : Nat) : Int) (by rfl) rfl rfl rfl (andU1 _) ?_
      simp only [Act.put, List.setIfInBounds_toArray, List.set_cons_zero, List.set_cons_succ]
      refine det_val (.bool (decide (((nb (R)).getD 0 0).toNat % 2 = 1))) (by rfl) (fun w hw => byte_odd _ rfl rfl rfl) ?_
      simp only [Act.put, List.setIfInBounds_toArray, List.set_cons_zero, List.set_cons_succ]
      refine det_call _ _ _ [.agg ((nb (R)).map bval).toArray, .agg ((nb (((leN zer : Nat) : Int) - ((leN (nb (R)) : Nat) : Int))).map bval).toArray, .bool (decide (((nb (R)).getD 0 0).toNat % 2 = 1))] (.agg ((if (decide (((nb (R)).getD 0 0).toNat % 2 = 1)) then (nb (((leN zer : Nat) : Int) - ((leN (nb (R)) : Nat) : Int))) else (nb (R))).map bval).toArray) (by rfl) rfl Tryd.call18 rfl (fun w hw => Pick_num (nb (R)) (nb (((leN zer : Nat) : Int) - ((leN (nb (R)) : Nat) : Int))) (decide (((nb (R)).getD 0 0).toNat % 2 = 1)) w (nb_length _) (nb_length _)) ?_
      simp only [Act.put, List.setIfInBounds_toArray, List.set_cons_zero, List.set_cons_succ]
      refine det_nil (end_set_assign (k := 9) _ _ _ _ _ 3 (.bool true) (A + 1) ((if (decide (((nb (R)).getD 0 0).toNat % 2 = 1)) then (nb (((leN zer : Nat) : Int) - ((leN (nb (R)) : Nat) : Int))) else (nb (R))).map bval) zero32 rfl rfl (by kernel_rfl) (by kernel_rfl) (by kernel_rfl) (by kernel_rfl) rfl rfl rfl rfl rfl rfl HR.out (pick_len _ _ _) (pick_size _ _ _) (bval_one _) rfl rfl rfl (fun w9 hb9 hg9 => ?_))
      simp only [Act.put, List.setIfInBounds_toArray, List.set_cons_zero, List.set_cons_succ]
      rw [rootN_true2 HRD.out h2] at hb9 ⊢
      go_wp2_with fail
      exact bodyPost_ret (result_row_tmp (p := 2) (u := 3) (by rfl) _ (A + 1) _ _ _ (by rfl) hb9 Tryd.underlying23 rfl (rootN_size _)) rfl ⟨by rw [rootB_true2 HRD.out h2]; rfl, ext_grown HE.out hg9 (by omega)⟩
    · go_wp2_with fail
      refine wp_region_all (by kernel_rfl) (by kernel_rfl) ?_
      refine det_load _ _ p6 rr.vs _ (by rfl) rfl rfl (fun w hw => ext_range HV6.out hw) Tryd.underlying33 rfl Tryd.arr33 ?_
      simp only [Act.put, List.setIfInBounds_toArray, List.set_cons_zero, List.set_cons_succ]
      refine det_load _ _ p6 rr.vs _ (by rfl) rfl rfl (fun w hw => ext_range HV6.out hw) Tryd.underlying33 rfl Tryd.arr33 ?_
      simp only [Act.put, List.setIfInBounds_toArray, List.set_cons_zero, List.set_cons_succ]
      refine det_call _ _ _ [rr.v, rr.v] ((timesL rr rr).v) (by rfl) rfl Tryd.call16 rfl (fun w hw => times_any rr rr LTR.out LTR.out w) ?_
      simp only [Act.put, List.setIfInBounds_toArray, List.set_cons_zero, List.set_cons_succ]
      refine det_call _ _ _ [(timesL rr rr).v] (.agg ((nb ((timesL rr rr).val : Nat)).map bval).toArray) (by rfl) rfl Tryd.call13 rfl (fun w hw => numOf_any _ ((timesL_lt LTR.out LTR.out).mono (by omega)) w) ?_
      simp only [Act.put, List.setIfInBounds_toArray, List.set_cons_zero, List.set_cons_succ]
      refine det_load _ _ q ((nb ((leN l : Nat) : Int)).map bval) _ (by rfl) rfl rfl (fun w hw => ext_range HQ.out hw) Tryd.underlying23 rfl (nb_size _) ?_
      simp only [Act.put, List.setIfInBounds_toArray, List.set_cons_zero, List.set_cons_succ]
      refine det_eql _ _ _ _ _ _ 32 _ (nb ((timesL rr rr).val : Nat)) (nb ((leN l : Nat) : Int)) true (by rfl) rfl (Or.inr ⟨rfl, decide_eq_false (by rw [HS2.out]; exact h2)⟩) Tryd.underlying23 Tryd.underlying5 num_info num_cells num_guard rfl rfl (nb_length _) (nb_length _) ?_
      simp only [Act.put, List.setIfInBounds_toArray, List.set_cons_zero, List.set_cons_succ]
      refine det_nil (fun w2 hw2 => ?_)
      have HR := Lib.hid (ext_blk HR.out hw2)
      have HQ := Lib.hid (ext_blk HQ.out hw2)
      have HV6 := Lib.hid (ext_blk HV6.out hw2)
      have HE := Lib.hid (HE.out.trans hw2)
      clear hw2
      have HZ1 : Hid (zer.map bval = zero32) := Lib.hid zer_zero32
      go_wp2_with (refine wpList_store_blk rfl _ _ _ rfl (A + 1) zero32 rfl rfl _ _ HR.out rfl Tryd.arr23 (ints_one _ _) ?_; intro w5 hb5 hg5)
      rw [← HZ1.out] at hb5
      exact bodyPost_ret (result_row_tmp (p := 2) (u := 3) (by rfl) _ (A + 1) _ _ _ (by rfl) hb5 Tryd.underlying23 rfl zer_size) rfl ⟨by rw [rootN_false2 HRD.out h2, rootB_false2 HRD.out h2]; rfl, ext_grown HE.out hg5 (by omega)⟩

end Go.Proofs.YtmiapjmdolecbaaDoor
