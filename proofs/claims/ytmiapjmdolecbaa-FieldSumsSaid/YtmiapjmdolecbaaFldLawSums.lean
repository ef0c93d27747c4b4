/- The walk of FieldSums. Each theorem names its own conditions. -/
import Derived.Test.YtmiapjmdolecbaaFldLaw0
import Derived.Test.YtmiapjmdolecbaaDetEnds
import Derived.Test.YtmiapjmdolecbaaFldLawM
import Derived.Test.YtmiapjmdolecbaaDetAll
namespace Go.Proofs.Ytmiapjmdolecbaa
open Go.RowKit
set_option linter.unusedVariables false
set_option linter.unusedSimpArgs false

theorem w64s (n : Nat) (h : n < 1000) : wrap64 (n : Int) = (n : Int) := by rw [← IntWalk.i64_left]; exact IntWalk.i64_in _ (by omega)
theorem zero32_zer : zero32 = zer.map bval := by
  unfold zero32 zer ints
  rw [List.map_replicate, List.map_replicate]
  rfl
theorem nb_len2 (x y : Int) : ((nb x).map bval).length = ((nb y).map bval).length := by rw [nb_len, nb_len]

set_option maxRecDepth 100000 in
set_option maxHeartbeats 8000000 in
theorem fieldSums_any (l : List UInt8) (n : UInt8) (w : World) (hl : l.length = 32) :
    Calls Try.prog 10 #[.agg (l.map bval).toArray, .int .u8 (n.toNat : Int)] w fun e w' => e = .returned (.bool true) ∧ Below w.heap.size w w' := by
  have HLl := Lib.hid hl
  have HIl : Hid ((Try.prog.info? 23).map (·.size) = some (l.map bval).length) := Lib.hid (by rw [List.length_map, hl]; exact Try.arr23)
  have HB := Lib.hid (Blk.made w (l.map bval) 23)
  have HA0 := Lib.hid (Ext.alloc w (.cells (l.map bval).toArray 23))
  clear hl
  go_enter Try.func10, Try.ntmps10
  go_wp2_with fail
  change Calls _ _ _ (w.alloc (.cells (l.map bval).toArray 23)) _
  generalize w.alloc (.cells (l.map bval).toArray 23) = w0 at *
  have h1 := HB.out
  have hE := HA0.out
  obtain ⟨A, hA⟩ : ∃ A, A = w.heap.size := ⟨_, rfl⟩
  rw [← hA] at h1 ⊢
  have hA2 : w.heap.size ≤ A := by omega
  have H1 := Lib.hid h1
  have HE : Hid (Ext w w0) := Lib.hid hE
  clear h1 hE HB hA HA0
  have HAw := Lib.hid hA2
  refine (alive_any _).mono ?_
  rintro e wa ⟨rfl, hb⟩
  have H1 := Lib.hid (ext_blk H1.out hb)
  have HE := Lib.hid (HE.out.trans hb)
  clear hb
  have HN : Hid (n.toNat < 256) := Lib.hid n.toNat_lt
  have hwr : wrap64 (n.toNat : Int) = (n.toNat : Int) := w64s _ (by have := n.toNat_lt; omega)
  have HWR := Lib.hid hwr
  have HP0 := Lib.hid (Blk.made wa zero32 23)
  have HX := Lib.hid (Ext.alloc wa (.cells zero32.toArray 23))
  have HPA := Lib.hid (H1.out.lt)
  have H1 := Lib.hid (ext_blk H1.out HX.out)
  have HE := Lib.hid (HE.out.trans HX.out)
  go_wp2_with (refine wpList_store_blk rfl _ _ _ rfl wa.heap.size zero32 rfl rfl _ _ HP0.out rfl Try.arr23 (ints_one _ _) ?_; intro w1 hb1 hg1)
  obtain ⟨p, hp⟩ : ∃ p, p = wa.heap.size := ⟨_, rfl⟩
  have hpA : A < p := by have := HPA.out; omega
  have hpw : w.heap.size ≤ p := by omega
  rw [← hp] at hb1 hg1 ⊢
  have H1 := Lib.hid (H1.out.grown hg1 (by simp; omega))
  have HE := Lib.hid (ext_grown HE.out hg1 hpw)
  have HP : Hid (Blk w1 p ((nb (((0 : Nat) : Int) * ((leN l : Nat) : Int))).map bval) 23) := Lib.hid (by rw [← sums0, ← zero32_zer]; exact hb1)
  clear HX HPA hp HP0 hb1 hg1
  obtain ⟨wo, rfl⟩ : ∃ wo : World, wo = w1 := ⟨_, rfl⟩
  go_loopw [7] (fun i wr => ∃ k : Nat, k ≤ n.toNat ∧ i = .int .i64 k ∧ Blk wr A (l.map bval) 23 ∧ Blk wr p ((nb ((k : Int) * ((leN l : Nat) : Int))).map bval) 23 ∧ Ext w wr) (fun i _ => n.toNat - (intOf i).toNat)
  case atStart => exact ⟨0, Nat.zero_le _, rfl, H1.out, HP.out, HE.out⟩
  case round =>
    clear H1 HP HE
    obtain ⟨k, hk, rfl, hb1, hb2, hbe⟩ := hrel
    have i0' : (0 : Int) ≤ (k : Int) := Int.natCast_nonneg _
    have hn := HN.out
    have H1 := Lib.hid hb1
    have HP := Lib.hid hb2
    have HE := Lib.hid hbe
    clear hb1 hb2 hbe
    by_cases hlt : k < n.toNat
    · have i1 : (k : Int) < (n.toNat : Int) := by omega
      go_wp2_with (first | (refine wpList_load_blk rfl _ _ rfl A rfl _ _ _ _ H1.out Try.underlying23 HIl.out ?_) | (refine wpList_load_blk rfl _ _ rfl p rfl _ _ _ _ HP.out Try.underlying23 (nb_size _) ?_))
      refine (Add_num (nb ((k : Int) * ((leN l : Nat) : Int))) l _ (nb_length _) HLl.out).mono ?_
      rintro e w2 ⟨rfl, hb⟩
      have H1 := Lib.hid (ext_blk H1.out hb)
      have HP := Lib.hid (ext_blk HP.out hb)
      have HE := Lib.hid (HE.out.trans hb)
      clear hb
      have HQ := Lib.hid (sums1 k ((leN l : Nat) : Int))
      go_wp2_with (refine wpList_store_blk rfl _ _ _ rfl p ((nb (((leN (nb ((k : Int) * ((leN l : Nat) : Int))) : Nat) : Int) + ((leN l : Nat) : Int))).map bval) rfl rfl _ _ HP.out (nb_len2 _ _) (nb_size _) (bval_one _) ?_; intro w3 hb3 hg3)
      go_roundw
      case rel =>
        rw [HQ.out] at hb3
        exact ⟨k + 1, by omega, by go_num, H1.out.grown hg3 (by simp; omega), hb3, ext_grown HE.out hg3 (by have := HAw.out; omega)⟩
      case measure => simp [intOf]; omega
    · have hk' : k = n.toNat := by omega
      subst hk'
      have HQ0 := Lib.hid (Blk.made wr zero32 23)
      have HX := Lib.hid (Ext.alloc wr (.cells zero32.toArray 23))
      have HK1 := Lib.hid (ext_blk H1.out HX.out)
      have HKP := Lib.hid (ext_blk HP.out HX.out)
      have HPQ := Lib.hid (HP.out.lt)
      go_wp2_with (first | (refine wpList_load_blk rfl _ _ rfl p rfl _ _ _ _ HP.out Try.underlying23 (nb_size _) ?_) | (refine wpList_store_blk rfl _ _ _ rfl wr.heap.size ((nb ((n.toNat : Int) * ((leN l : Nat) : Int))).map bval) rfl rfl _ _ HQ0.out (nb_len _) (nb_size _) (bval_one _) ?_; intro w5 hb5 hg5))
      obtain ⟨q, hq⟩ : ∃ q, q = wr.heap.size := ⟨_, rfl⟩
      have hpq : p < q := by have := HPQ.out; omega
      rw [← hq] at hb5 hg5 ⊢
      have hqw : w.heap.size ≤ q := by have := HE.out.size; omega
      have H1 := Lib.hid (HK1.out.grown hg5 (by simp; omega))
      have HP := Lib.hid (HKP.out.grown hg5 (by simp; omega))
      have HE := Lib.hid (ext_grown (HE.out.trans HX.out) hg5 hqw)
      have HD : Hid (Blk w5 q ((nb (((n.toNat - 0 : Nat) : Int) * ((leN l : Nat) : Int))).map bval) 23) := Lib.hid (by rw [Nat.sub_zero]; exact hb5)
      clear hb5 hg5 hq HK1 HKP HX HQ0 HPQ
      obtain ⟨wo, rfl⟩ : ∃ wo : World, wo = w5 := ⟨_, rfl⟩
      go_loopw [9] (fun i wr => ∃ k : Nat, k ≤ n.toNat ∧ i = .int .i64 k ∧ Blk wr A (l.map bval) 23 ∧ Blk wr p ((nb ((n.toNat : Int) * ((leN l : Nat) : Int))).map bval) 23 ∧ Blk wr q ((nb (((n.toNat - k : Nat) : Int) * ((leN l : Nat) : Int))).map bval) 23 ∧ Ext w wr) (fun i _ => n.toNat - (intOf i).toNat)
      case atStart => exact ⟨0, Nat.zero_le _, rfl, H1.out, HP.out, HD.out, HE.out⟩
      case round =>
        clear H1 HP HE HD
        obtain ⟨k, hk, rfl, hb1, hb2, hb3, hbe⟩ := hrel
        have i0' : (0 : Int) ≤ (k : Int) := Int.natCast_nonneg _
        have H1 := Lib.hid hb1
        have HS := Lib.hid hb2
        have HD := Lib.hid hb3
        have HE := Lib.hid hbe
        clear hb1 hb2 hb3 hbe
        by_cases hlt : k < n.toNat
        · have i1 : (k : Int) < (n.toNat : Int) := by omega
          have HQ := Lib.hid (sums2 n.toNat k ((leN l : Nat) : Int) hlt)
          go_wp2_with (first | (refine wpList_load_blk rfl _ _ rfl A rfl _ _ _ _ H1.out Try.underlying23 HIl.out ?_) | (refine wpList_load_blk rfl _ _ rfl q rfl _ _ _ _ HD.out Try.underlying23 (nb_size _) ?_))
          refine (Sub_num (nb (((n.toNat - k : Nat) : Int) * ((leN l : Nat) : Int))) l _ (nb_length _) HLl.out).mono ?_
          rintro e w2 ⟨rfl, hb⟩
          have H1 := Lib.hid (ext_blk H1.out hb)
          have HS := Lib.hid (ext_blk HS.out hb)
          have HD := Lib.hid (ext_blk HD.out hb)
          have HE := Lib.hid (HE.out.trans hb)
          clear hb
          go_wp2_with (refine wpList_store_blk rfl _ _ _ rfl q ((nb (((leN (nb (((n.toNat - k : Nat) : Int) * ((leN l : Nat) : Int))) : Nat) : Int) - ((leN l : Nat) : Int))).map bval) rfl rfl _ _ HD.out (nb_len2 _ _) (nb_size _) (bval_one _) ?_; intro w3 hb3 hg3)
          go_roundw
          case rel =>
            rw [HQ.out] at hb3
            exact ⟨k + 1, by omega, by go_num, H1.out.grown hg3 (by simp; omega), HS.out.grown hg3 (by simp; omega), hb3, ext_grown HE.out hg3 hqw⟩
          case measure => simp [intOf]; omega
        · have hk' : k = n.toNat := by omega
          subst hk'
          go_wp2_with fail
          refine wp_region_all (by kernel_rfl) (by kernel_rfl) ?_
          refine det_move _ (.bool true) (by rfl) rfl rfl ?_
          simp only [Act.put, List.setIfInBounds_toArray, List.set_cons_zero, List.set_cons_succ]
          refine det_move _ (.bool true) (by rfl) rfl rfl ?_
          simp only [Act.put, List.setIfInBounds_toArray, List.set_cons_zero, List.set_cons_succ]
          refine det_load _ _ p ((nb ((n.toNat : Int) * ((leN l : Nat) : Int))).map bval) _ (by rfl) rfl rfl (fun w hw => ext_range HS.out hw) Try.underlying23 rfl (nb_size _) ?_
          simp only [Act.put, List.setIfInBounds_toArray, List.set_cons_zero, List.set_cons_succ]
          refine det_load _ _ A (l.map bval) _ (by rfl) rfl rfl (fun w hw => ext_range H1.out hw) Try.underlying23 rfl HIl.out ?_
          simp only [Act.put, List.setIfInBounds_toArray, List.set_cons_zero, List.set_cons_succ]
          refine det_move _ (.int .u8 ((n : UInt8).toNat : Int)) (by rfl) rfl rfl ?_
          simp only [Act.put, List.setIfInBounds_toArray, List.set_cons_zero, List.set_cons_succ]
          refine det_call _ _ _ [.int .u8 ((n : UInt8).toNat : Int)] (.agg ((smL n).map bval).toArray) (by rfl) rfl Try.call25 rfl (fun w hw => small_any n w) ?_
          simp only [Act.put, List.setIfInBounds_toArray, List.set_cons_zero, List.set_cons_succ]
          refine det_call _ _ _ [.agg (l.map bval).toArray, .agg ((smL n).map bval).toArray] (.agg ((nb (((leN l : Nat) : Int) * ((leN (smL n) : Nat) : Int))).map bval).toArray) (by rfl) rfl Try.call18 rfl (fun w hw => Mul_num l (smL n) w HLl.out (smL_length _)) ?_
          simp only [Act.put, List.setIfInBounds_toArray, List.set_cons_zero, List.set_cons_succ]
          refine det_eql _ _ _ _ _ _ 32 _ (nb ((n.toNat : Int) * ((leN l : Nat) : Int))) (nb (((leN l : Nat) : Int) * ((leN (smL n) : Nat) : Int))) true (by rfl) rfl (Or.inl ⟨rfl, decide_eq_true (sums3 _ _)⟩) Try.underlying23 Try.underlying5 num_info num_cells num_guard rfl rfl (nb_length _) (nb_length _) ?_
          simp only [Act.put, List.setIfInBounds_toArray, List.set_cons_zero, List.set_cons_succ]
          refine det_pick _ _ _ true (.bool true) (by rfl) rfl rfl rfl ?_
          simp only [Act.put, List.setIfInBounds_toArray, List.set_cons_zero, List.set_cons_succ]
          refine det_move _ (.bool true) (by rfl) rfl rfl ?_
          simp only [Act.put, List.setIfInBounds_toArray, List.set_cons_zero, List.set_cons_succ]
          refine det_load _ _ q ((nb (((n.toNat - n.toNat : Nat) : Int) * ((leN l : Nat) : Int))).map bval) _ (by rfl) rfl rfl (fun w hw => ext_range HD.out hw) Try.underlying23 rfl (nb_size _) ?_
          simp only [Act.put, List.setIfInBounds_toArray, List.set_cons_zero, List.set_cons_succ]
          refine det_val (.agg (zer.map bval).toArray) (by rfl) (fun w hw => by unfold execOp; simp [build_zer]) ?_
          simp only [Act.put, List.setIfInBounds_toArray, List.set_cons_zero, List.set_cons_succ]
          refine det_eql _ _ _ _ _ _ 32 _ (nb (((n.toNat - n.toNat : Nat) : Int) * ((leN l : Nat) : Int))) zer true (by rfl) rfl (Or.inl ⟨rfl, decide_eq_true (sums4 _ _)⟩) Try.underlying23 Try.underlying5 num_info num_cells num_guard rfl rfl (nb_length _) zer_length ?_
          simp only [Act.put, List.setIfInBounds_toArray, List.set_cons_zero, List.set_cons_succ]
          refine det_pick _ _ _ true (.bool true) (by rfl) rfl rfl rfl ?_
          simp only [Act.put, List.setIfInBounds_toArray, List.set_cons_zero, List.set_cons_succ]
          refine det_assign _ (.bool true) (by rfl) rfl rfl ?_
          simp only [Act.put, List.setIfInBounds_toArray, List.set_cons_zero, List.set_cons_succ]
          refine det_nil ((fun w9 hw9 => ?_))
          go_wp2_with fail
          go_ret
          exact ⟨rfl, HE.out.trans hw9⟩

end Go.Proofs.Ytmiapjmdolecbaa
