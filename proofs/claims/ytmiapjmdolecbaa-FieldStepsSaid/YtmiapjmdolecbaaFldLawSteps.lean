/- The walk of FieldSteps. Each theorem names its own conditions. -/
import Derived.Test.YtmiapjmdolecbaaFldLaw0
import Derived.Test.YtmiapjmdolecbaaDetEnds
import Derived.Test.YtmiapjmdolecbaaFldTop5
import Derived.Test.YtmiapjmdolecbaaFldLawM
import Derived.Test.YtmiapjmdolecbaaDetAll
namespace Go.Proofs.Ytmiapjmdolecbaa
open Go.RowKit
set_option linter.unusedVariables false
set_option linter.unusedSimpArgs false

theorem sumL_size (a b : UInt8) : (Try.prog.info? 23).map (·.size) = some ((sumL a b).map bval).length := by rw [List.length_map, sumL_length]; exact Try.arr23
theorem sum_one {a b : Int} : ∀ v ∈ (Value.int .u8 a :: .int .u8 b :: List.replicate 30 (.int .u8 0)), v.oneCell' = true := by
  intro v hv
  simp only [List.mem_cons, List.mem_replicate] at hv
  rcases hv with rfl | rfl | ⟨_, rfl⟩ <;> rfl
theorem w64i (n : Nat) (h : n < 1000) : wrap64 (n : Int) = (n : Int) := by rw [← IntWalk.i64_left]; exact IntWalk.i64_in _ (by omega)
theorem and255i (n : Nat) (h : n < 1000) : bits .and .i64 (n : Int) 255 = ((n % 256 : Nat) : Int) := by
  have e1 : (BitVec.ofInt 64 (255 : Int)).toNat = 255 := by decide
  have e2 : (BitVec.ofInt 64 (n : Int)).toNat = n := by rw [BitVec.toNat_ofInt]; omega
  show IntKind.i64.wrap ((BitVec.ofInt 64 (n : Int) &&& BitVec.ofInt 64 (255 : Int)).toNat : Nat) = _
  have e : n &&& 255 = n % 256 := Nat.and_two_pow_sub_one_eq_mod n 8
  rw [BitVec.toNat_and, e1, e2, e]
  exact IntWalk.i64_in _ (by omega)
theorem sum_low (x y : UInt8) : bits .and .i64 (wrap64 (wrap64 (x.toNat : Int) + wrap64 (y.toNat : Int))) 255 % 256 = ((UInt8.ofNat ((x.toNat + y.toNat) % 256)).toNat : Int) := by
  have hx := x.toNat_lt
  have hy := y.toNat_lt
  rw [w64i _ (by omega), w64i _ (by omega), ← Int.natCast_add, w64i _ (by omega), and255i _ (by omega), UInt8.toNat_ofNat']
  omega
theorem sum_high (x y : UInt8) : wrap64 (wrap64 (x.toNat : Int) + wrap64 (y.toNat : Int)) / 256 % 256 = ((UInt8.ofNat ((x.toNat + y.toNat) / 256)).toNat : Int) := by
  have hx := x.toNat_lt
  have hy := y.toNat_lt
  rw [w64i _ (by omega), w64i _ (by omega), ← Int.natCast_add, w64i _ (by omega), UInt8.toNat_ofNat']
  omega
theorem sum_len (a b : Int) : (Value.int .u8 a :: Value.int .u8 b :: List.replicate 30 (Value.int .u8 0)).length = zero32.length := by simp [zero32, ints_length]
theorem sum_size (a b : Int) : (Try.prog.info? 23).map (·.size) = some (Value.int .u8 a :: Value.int .u8 b :: List.replicate 30 (Value.int .u8 0)).length := by rw [sum_len]; exact Try.arr23
theorem sum_cells (x y : UInt8) : Value.int .u8 (bits .and .i64 (wrap64 (wrap64 (x.toNat : Int) + wrap64 (y.toNat : Int))) 255 % 256) :: Value.int .u8 (wrap64 (wrap64 (x.toNat : Int) + wrap64 (y.toNat : Int)) / 256 % 256) :: List.replicate 30 (Value.int .u8 0) = (sumL x y).map bval := by
  have h0 : Value.int .u8 0 = bval 0 := rfl
  rw [sum_low, sum_high, h0, sumL, List.map_cons, List.map_cons, List.map_replicate]
  unfold bval
  rfl

set_option maxRecDepth 100000 in
set_option maxHeartbeats 8000000 in
theorem fieldSteps_zero (l : List UInt8) (x y : UInt8) (w : World) (hl : l.length = 32) (hz : nb ((leN l : Nat) : Int) = zer) :
    Calls Try.prog 8 #[.agg (l.map bval).toArray, .int .u8 (x.toNat : Int), .int .u8 (y.toNat : Int)] w fun e w' => e = .returned (.bool true) ∧ Below w.heap.size w w' := by
  have HLl := Lib.hid hl
  have HIl : Hid ((Try.prog.info? 23).map (·.size) = some (l.map bval).length) := Lib.hid (by rw [List.length_map, hl]; exact Try.arr23)
  have HB := Lib.hid (Blk.made w (l.map bval) 23)
  have HA0 := Lib.hid (Ext.alloc w (.cells (l.map bval).toArray 23))
  clear hl
  go_enter Try.func8, Try.ntmps8
  go_wp2_with fail
  change Calls _ _ _ (w.alloc (.cells (l.map bval).toArray 23)) _
  generalize w.alloc (.cells (l.map bval).toArray 23) = w0 at *
  have h1 := HB.out
  have hE := HA0.out
  obtain ⟨A, hA⟩ : ∃ A, A = w.heap.size := ⟨_, rfl⟩
  rw [← hA] at h1 ⊢
  have hA2 : w.heap.size ≤ A := by omega
  have H1 := Lib.hid h1
  have HE : Hid (Ext w w0) := Lib.hid hE
  clear h1 hE HB hA HA0
  refine (alive_any _).mono ?_
  rintro e wa ⟨rfl, hb⟩
  have H1 := Lib.hid (ext_blk H1.out hb)
  have HE := Lib.hid (HE.out.trans hb)
  clear hb
  have hDA : A < wa.heap.size := H1.out.lt
  have HD := Lib.hid (Blk.made wa zero32 23)
  have HX := Lib.hid (Ext.alloc wa (.cells zero32.toArray 23))
  have HK1 := Lib.hid (ext_blk H1.out HX.out)
  have HQ1 := Lib.hid (sum_cells x y)
  go_wp2_with (refine wpList_store_blk rfl _ _ _ rfl wa.heap.size (.int .u8 _ :: .int .u8 _ :: List.replicate 30 (.int .u8 0)) rfl rfl _ _ HD.out (sum_len _ _) (sum_size _ _) sum_one ?_; intro w5 hb5 hg5)
  rw [HQ1.out] at hb5
  have H1 := Lib.hid (HK1.out.grown hg5 (by simp; omega))
  have HE := Lib.hid (ext_grown (HE.out.trans HX.out) hg5 (by omega))
  have HS : Hid (Blk w5 wa.heap.size ((sumL x y).map bval) 23) := Lib.hid hb5
  generalize wa.heap.size = D at *
  clear hb5 hg5
  refine wp_region_all (by kernel_rfl) (by kernel_rfl) ?_
  refine det_load _ _ A (l.map bval) _ (by rfl) rfl rfl (fun w hw => ext_range H1.out hw) Try.underlying23 rfl HIl.out ?_
  simp only [Act.put, List.setIfInBounds_toArray, List.set_cons_zero, List.set_cons_succ]
  refine det_load _ _ D ((sumL x y).map bval) _ (by rfl) rfl rfl (fun w hw => ext_range HS.out hw) Try.underlying23 rfl (sumL_size _ _) ?_
  simp only [Act.put, List.setIfInBounds_toArray, List.set_cons_zero, List.set_cons_succ]
  refine det_call _ _ _ [.agg (l.map bval).toArray, .agg ((sumL x y).map bval).toArray] (.agg ((nb (((leN l : Nat) : Int) ^ leN ((sumL x y)))).map bval).toArray) (by rfl) rfl Try.call20 rfl (fun w hw => Pow_num l (sumL x y) w HLl.out (sumL_length _ _)) ?_
  simp only [Act.put, List.setIfInBounds_toArray, List.set_cons_zero, List.set_cons_succ]
  refine det_load _ _ A (l.map bval) _ (by rfl) rfl rfl (fun w hw => ext_range H1.out hw) Try.underlying23 rfl HIl.out ?_
  simp only [Act.put, List.setIfInBounds_toArray, List.set_cons_zero, List.set_cons_succ]
  refine det_move _ (.int .u8 ((x : UInt8).toNat : Int)) (by rfl) rfl rfl ?_
  simp only [Act.put, List.setIfInBounds_toArray, List.set_cons_zero, List.set_cons_succ]
  refine det_call _ _ _ [.int .u8 ((x : UInt8).toNat : Int)] (.agg ((smL x).map bval).toArray) (by rfl) rfl Try.call25 rfl (fun w hw => small_any x w) ?_
  simp only [Act.put, List.setIfInBounds_toArray, List.set_cons_zero, List.set_cons_succ]
  refine det_call _ _ _ [.agg (l.map bval).toArray, .agg ((smL x).map bval).toArray] (.agg ((nb (((leN l : Nat) : Int) ^ leN ((smL x)))).map bval).toArray) (by rfl) rfl Try.call20 rfl (fun w hw => Pow_num l (smL x) w HLl.out (smL_length _)) ?_
  simp only [Act.put, List.setIfInBounds_toArray, List.set_cons_zero, List.set_cons_succ]
  refine det_load _ _ A (l.map bval) _ (by rfl) rfl rfl (fun w hw => ext_range H1.out hw) Try.underlying23 rfl HIl.out ?_
  simp only [Act.put, List.setIfInBounds_toArray, List.set_cons_zero, List.set_cons_succ]
  refine det_move _ (.int .u8 ((y : UInt8).toNat : Int)) (by rfl) rfl rfl ?_
  simp only [Act.put, List.setIfInBounds_toArray, List.set_cons_zero, List.set_cons_succ]
  refine det_call _ _ _ [.int .u8 ((y : UInt8).toNat : Int)] (.agg ((smL y).map bval).toArray) (by rfl) rfl Try.call25 rfl (fun w hw => small_any y w) ?_
  simp only [Act.put, List.setIfInBounds_toArray, List.set_cons_zero, List.set_cons_succ]
  refine det_call _ _ _ [.agg (l.map bval).toArray, .agg ((smL y).map bval).toArray] (.agg ((nb (((leN l : Nat) : Int) ^ leN ((smL y)))).map bval).toArray) (by rfl) rfl Try.call20 rfl (fun w hw => Pow_num l (smL y) w HLl.out (smL_length _)) ?_
  simp only [Act.put, List.setIfInBounds_toArray, List.set_cons_zero, List.set_cons_succ]
  refine det_call _ _ _ [.agg ((nb (((leN l : Nat) : Int) ^ leN ((smL x)))).map bval).toArray, .agg ((nb (((leN l : Nat) : Int) ^ leN ((smL y)))).map bval).toArray] (.agg ((nb (((leN (nb (((leN l : Nat) : Int) ^ leN ((smL x)))) : Nat) : Int) * ((leN (nb (((leN l : Nat) : Int) ^ leN ((smL y)))) : Nat) : Int))).map bval).toArray) (by rfl) rfl Try.call18 rfl (fun w hw => Mul_num (nb (((leN l : Nat) : Int) ^ leN ((smL x)))) (nb (((leN l : Nat) : Int) ^ leN ((smL y)))) w (nb_length _) (nb_length _)) ?_
  simp only [Act.put, List.setIfInBounds_toArray, List.set_cons_zero, List.set_cons_succ]
  refine det_eql _ _ _ _ _ _ 32 _ (nb (((leN l : Nat) : Int) ^ leN ((sumL x y)))) (nb (((leN (nb (((leN l : Nat) : Int) ^ leN ((smL x)))) : Nat) : Int) * ((leN (nb (((leN l : Nat) : Int) ^ leN ((smL y)))) : Nat) : Int))) true (by rfl) rfl (Or.inl ⟨rfl, decide_eq_true (steps1 _ _ _)⟩) Try.underlying23 Try.underlying5 num_info num_cells num_guard rfl rfl (nb_length _) (nb_length _) ?_
  simp only [Act.put, List.setIfInBounds_toArray, List.set_cons_zero, List.set_cons_succ]
  refine det_assign _ (.bool true) (by rfl) rfl rfl ?_
  simp only [Act.put, List.setIfInBounds_toArray, List.set_cons_zero, List.set_cons_succ]
  refine det_nil ((fun w3 hw3 => ?_))
  have H1 := Lib.hid (ext_blk H1.out hw3)
  have HE := Lib.hid (HE.out.trans hw3)
  clear hw3
  go_wp2_with fail
  refine wp_region_from 5 2 6 rfl (by kernel_rfl) (by kernel_rfl) (fun d v c a w h => by cases d <;> exact h) (by kernel_rfl) ?_
  refine det_load _ _ A (l.map bval) _ (by rfl) rfl rfl (fun w hw => ext_range H1.out hw) Try.underlying23 rfl HIl.out ?_
  simp only [Act.put, List.setIfInBounds_toArray, List.set_cons_zero, List.set_cons_succ]
  refine det_val (.agg (zer.map bval).toArray) (by rfl) (fun w hw => by unfold execOp; simp [build_zer]) ?_
  simp only [Act.put, List.setIfInBounds_toArray, List.set_cons_zero, List.set_cons_succ]
  refine det_call _ _ _ [.int .u8 ((1 : UInt8).toNat : Int)] (.agg ((smL 1).map bval).toArray) (by rfl) rfl Try.call25 rfl (fun w hw => small_any 1 w) ?_
  simp only [Act.put, List.setIfInBounds_toArray, List.set_cons_zero, List.set_cons_succ]
  refine det_call _ _ _ [.agg (zer.map bval).toArray, .agg ((smL 1).map bval).toArray] (.agg ((nb (((leN zer : Nat) : Int) - ((leN (smL 1) : Nat) : Int))).map bval).toArray) (by rfl) rfl Try.call16 rfl (fun w hw => Sub_num zer (smL 1) w zer_length (smL_length _)) ?_
  simp only [Act.put, List.setIfInBounds_toArray, List.set_cons_zero, List.set_cons_succ]
  refine det_call _ _ _ [.agg (l.map bval).toArray, .agg ((nb (((leN zer : Nat) : Int) - ((leN (smL 1) : Nat) : Int))).map bval).toArray] (.agg ((nb (((leN l : Nat) : Int) ^ leN ((nb (((leN zer : Nat) : Int) - ((leN (smL 1) : Nat) : Int)))))).map bval).toArray) (by rfl) rfl Try.call20 rfl (fun w hw => Pow_num l (nb (((leN zer : Nat) : Int) - ((leN (smL 1) : Nat) : Int))) w HLl.out (nb_length _)) ?_
  simp only [Act.put, List.setIfInBounds_toArray, List.set_cons_zero, List.set_cons_succ]
  refine det_nil (end_var (k := 5) _ 10 (.tmp 45) zero32 ((nb (((leN l : Nat) : Int) ^ leN ((nb (((leN zer : Nat) : Int) - ((leN (smL 1) : Nat) : Int)))))).map bval) rfl rfl (by kernel_rfl) (by kernel_rfl) (by kernel_rfl) (by kernel_rfl) (by kernel_rfl) rfl rfl rfl rfl Try.zeroValue23 rfl (by simp) (fun p => rfl) (nb_len _) (nb_size _) (bval_one _) (fun p wv hpv hbv hev => ?_))
  simp only [Act.put, List.setIfInBounds_toArray, List.set_cons_zero, List.set_cons_succ]
  have H1 := Lib.hid (ext_blk H1.out hev)
  have HE := Lib.hid (HE.out.trans hev)
  have HY := Lib.hid hbv
  clear hbv hev hpv
  go_wp2_with (refine wpList_load_blk rfl _ _ rfl A rfl _ _ _ _ H1.out Try.underlying23 HIl.out ?_)
  refine (Canon_num l _ HLl.out).mono ?_
  rintro e wc ⟨rfl, hb⟩
  have H1 := Lib.hid (ext_blk H1.out hb)
  have HY := Lib.hid (ext_blk HY.out hb)
  have HE := Lib.hid (HE.out.trans hb)
  clear hb
  have hpC : p < wc.heap.size := HY.out.lt
  have hAC : A < wc.heap.size := H1.out.lt
  have HD := Lib.hid (Blk.made wc zero32 23)
  have HX := Lib.hid (Ext.alloc wc (.cells zero32.toArray 23))
  have HK1 := Lib.hid (ext_blk H1.out HX.out)
  have HKY := Lib.hid (ext_blk HY.out HX.out)
  go_wp2_with (refine wpList_store_blk rfl _ _ _ rfl wc.heap.size ((nb (((leN l : Nat) : Int))).map bval) rfl rfl _ _ HD.out (nb_len _) (nb_size _) (bval_one _) ?_; intro w5 hb5 hg5)
  have H1 := Lib.hid (HK1.out.grown hg5 (by simp; omega))
  have HY := Lib.hid (HKY.out.grown hg5 (by simp; omega))
  have HE := Lib.hid (ext_grown (HE.out.trans HX.out) hg5 (HE.out.size))
  have HC := Lib.hid hb5
  clear hb5 hg5
  generalize wc.heap.size = G at *
  refine wp_region_all (by kernel_rfl) (by kernel_rfl) ?_
  refine det_move _ (.bool true) (by rfl) rfl rfl ?_
  simp only [Act.put, List.setIfInBounds_toArray, List.set_cons_zero, List.set_cons_succ]
  refine det_move _ (.bool true) (by rfl) rfl rfl ?_
  simp only [Act.put, List.setIfInBounds_toArray, List.set_cons_zero, List.set_cons_succ]
  refine det_move _ (.bool true) (by rfl) rfl rfl ?_
  simp only [Act.put, List.setIfInBounds_toArray, List.set_cons_zero, List.set_cons_succ]
  refine det_pick _ _ _ true (.bool true) (by rfl) rfl rfl rfl ?_
  simp only [Act.put, List.setIfInBounds_toArray, List.set_cons_zero, List.set_cons_succ]
  refine det_move _ (.bool true) (by rfl) rfl rfl ?_
  simp only [Act.put, List.setIfInBounds_toArray, List.set_cons_zero, List.set_cons_succ]
  refine det_load _ _ A (l.map bval) _ (by rfl) rfl rfl (fun w hw => ext_range H1.out hw) Try.underlying23 rfl HIl.out ?_
  simp only [Act.put, List.setIfInBounds_toArray, List.set_cons_zero, List.set_cons_succ]
  refine det_call _ _ _ [.int .u8 ((2 : UInt8).toNat : Int)] (.agg ((smL 2).map bval).toArray) (by rfl) rfl Try.call25 rfl (fun w hw => small_any 2 w) ?_
  simp only [Act.put, List.setIfInBounds_toArray, List.set_cons_zero, List.set_cons_succ]
  refine det_call _ _ _ [.agg (l.map bval).toArray, .agg ((smL 2).map bval).toArray] (.agg ((nb (((leN l : Nat) : Int) ^ leN ((smL 2)))).map bval).toArray) (by rfl) rfl Try.call20 rfl (fun w hw => Pow_num l (smL 2) w HLl.out (smL_length _)) ?_
  simp only [Act.put, List.setIfInBounds_toArray, List.set_cons_zero, List.set_cons_succ]
  refine det_load _ _ A (l.map bval) _ (by rfl) rfl rfl (fun w hw => ext_range H1.out hw) Try.underlying23 rfl HIl.out ?_
  simp only [Act.put, List.setIfInBounds_toArray, List.set_cons_zero, List.set_cons_succ]
  refine det_load _ _ A (l.map bval) _ (by rfl) rfl rfl (fun w hw => ext_range H1.out hw) Try.underlying23 rfl HIl.out ?_
  simp only [Act.put, List.setIfInBounds_toArray, List.set_cons_zero, List.set_cons_succ]
  refine det_call _ _ _ [.agg (l.map bval).toArray, .agg (l.map bval).toArray] (.agg ((nb (((leN l : Nat) : Int) * ((leN l : Nat) : Int))).map bval).toArray) (by rfl) rfl Try.call18 rfl (fun w hw => Mul_num l l w HLl.out HLl.out) ?_
  simp only [Act.put, List.setIfInBounds_toArray, List.set_cons_zero, List.set_cons_succ]
  refine det_eql _ _ _ _ _ _ 32 _ (nb (((leN l : Nat) : Int) ^ leN ((smL 2)))) (nb (((leN l : Nat) : Int) * ((leN l : Nat) : Int))) true (by rfl) rfl (Or.inl ⟨rfl, decide_eq_true (steps2 _)⟩) Try.underlying23 Try.underlying5 num_info num_cells num_guard rfl rfl (nb_length _) (nb_length _) ?_
  simp only [Act.put, List.setIfInBounds_toArray, List.set_cons_zero, List.set_cons_succ]
  refine det_pick _ _ _ true (.bool true) (by rfl) rfl rfl rfl ?_
  simp only [Act.put, List.setIfInBounds_toArray, List.set_cons_zero, List.set_cons_succ]
  refine det_move _ (.bool true) (by rfl) rfl rfl ?_
  simp only [Act.put, List.setIfInBounds_toArray, List.set_cons_zero, List.set_cons_succ]
  refine det_load _ _ A (l.map bval) _ (by rfl) rfl rfl (fun w hw => ext_range H1.out hw) Try.underlying23 rfl HIl.out ?_
  simp only [Act.put, List.setIfInBounds_toArray, List.set_cons_zero, List.set_cons_succ]
  refine det_call _ _ _ [.int .u8 ((1 : UInt8).toNat : Int)] (.agg ((smL 1).map bval).toArray) (by rfl) rfl Try.call25 rfl (fun w hw => small_any 1 w) ?_
  simp only [Act.put, List.setIfInBounds_toArray, List.set_cons_zero, List.set_cons_succ]
  refine det_call _ _ _ [.agg (l.map bval).toArray, .agg ((smL 1).map bval).toArray] (.agg ((nb (((leN l : Nat) : Int) ^ leN ((smL 1)))).map bval).toArray) (by rfl) rfl Try.call20 rfl (fun w hw => Pow_num l (smL 1) w HLl.out (smL_length _)) ?_
  simp only [Act.put, List.setIfInBounds_toArray, List.set_cons_zero, List.set_cons_succ]
  refine det_load _ _ G ((nb (((leN l : Nat) : Int))).map bval) _ (by rfl) rfl rfl (fun w hw => ext_range HC.out hw) Try.underlying23 rfl (nb_size _) ?_
  simp only [Act.put, List.setIfInBounds_toArray, List.set_cons_zero, List.set_cons_succ]
  refine det_eql _ _ _ _ _ _ 32 _ (nb (((leN l : Nat) : Int) ^ leN ((smL 1)))) (nb (((leN l : Nat) : Int))) true (by rfl) rfl (Or.inl ⟨rfl, decide_eq_true (steps3 _)⟩) Try.underlying23 Try.underlying5 num_info num_cells num_guard rfl rfl (nb_length _) (nb_length _) ?_
  simp only [Act.put, List.setIfInBounds_toArray, List.set_cons_zero, List.set_cons_succ]
  refine det_pick _ _ _ true (.bool true) (by rfl) rfl rfl rfl ?_
  simp only [Act.put, List.setIfInBounds_toArray, List.set_cons_zero, List.set_cons_succ]
  refine det_move _ (.bool true) (by rfl) rfl rfl ?_
  simp only [Act.put, List.setIfInBounds_toArray, List.set_cons_zero, List.set_cons_succ]
  refine det_load _ _ A (l.map bval) _ (by rfl) rfl rfl (fun w hw => ext_range H1.out hw) Try.underlying23 rfl HIl.out ?_
  simp only [Act.put, List.setIfInBounds_toArray, List.set_cons_zero, List.set_cons_succ]
  refine det_val (.agg (zer.map bval).toArray) (by rfl) (fun w hw => by unfold execOp; simp [build_zer]) ?_
  simp only [Act.put, List.setIfInBounds_toArray, List.set_cons_zero, List.set_cons_succ]
  refine det_call _ _ _ [.agg (l.map bval).toArray, .agg (zer.map bval).toArray] (.agg ((nb (((leN l : Nat) : Int) ^ leN zer)).map bval).toArray) (by rfl) rfl Try.call20 rfl (fun w hw => Pow_num l zer w HLl.out zer_length) ?_
  simp only [Act.put, List.setIfInBounds_toArray, List.set_cons_zero, List.set_cons_succ]
  refine det_call _ _ _ [.int .u8 ((1 : UInt8).toNat : Int)] (.agg ((smL 1).map bval).toArray) (by rfl) rfl Try.call25 rfl (fun w hw => small_any 1 w) ?_
  simp only [Act.put, List.setIfInBounds_toArray, List.set_cons_zero, List.set_cons_succ]
  refine det_eql _ _ _ _ _ _ 32 _ (nb (((leN l : Nat) : Int) ^ leN zer)) (smL 1) true (by rfl) rfl (Or.inl ⟨rfl, decide_eq_true (steps4 _)⟩) Try.underlying23 Try.underlying5 num_info num_cells num_guard rfl rfl (nb_length _) (smL_length _) ?_
  simp only [Act.put, List.setIfInBounds_toArray, List.set_cons_zero, List.set_cons_succ]
  refine det_pick _ _ _ true (.bool true) (by rfl) rfl rfl rfl ?_
  simp only [Act.put, List.setIfInBounds_toArray, List.set_cons_zero, List.set_cons_succ]
  refine det_move _ (.bool true) (by rfl) rfl rfl ?_
  simp only [Act.put, List.setIfInBounds_toArray, List.set_cons_zero, List.set_cons_succ]
  refine det_load _ _ G ((nb (((leN l : Nat) : Int))).map bval) _ (by rfl) rfl rfl (fun w hw => ext_range HC.out hw) Try.underlying23 rfl (nb_size _) ?_
  simp only [Act.put, List.setIfInBounds_toArray, List.set_cons_zero, List.set_cons_succ]
  refine det_val (.agg (zer.map bval).toArray) (by rfl) (fun w hw => by unfold execOp; simp [build_zer]) ?_
  simp only [Act.put, List.setIfInBounds_toArray, List.set_cons_zero, List.set_cons_succ]
  refine det_eql _ _ _ _ _ _ 32 _ (nb (((leN l : Nat) : Int))) zer true (by rfl) rfl (Or.inl ⟨rfl, decide_eq_true hz⟩) Try.underlying23 Try.underlying5 num_info num_cells num_guard rfl rfl (nb_length _) zer_length ?_
  simp only [Act.put, List.setIfInBounds_toArray, List.set_cons_zero, List.set_cons_succ]
  refine det_move _ (.bool true) (by rfl) rfl rfl ?_
  simp only [Act.put, List.setIfInBounds_toArray, List.set_cons_zero, List.set_cons_succ]
  refine det_load _ _ p ((nb (((leN l : Nat) : Int) ^ leN ((nb (((leN zer : Nat) : Int) - ((leN (smL 1) : Nat) : Int)))))).map bval) _ (by rfl) rfl rfl (fun w hw => ext_range HY.out hw) Try.underlying23 rfl (nb_size _) ?_
  simp only [Act.put, List.setIfInBounds_toArray, List.set_cons_zero, List.set_cons_succ]
  refine det_val (.agg (zer.map bval).toArray) (by rfl) (fun w hw => by unfold execOp; simp [build_zer]) ?_
  simp only [Act.put, List.setIfInBounds_toArray, List.set_cons_zero, List.set_cons_succ]
  refine det_eql _ _ _ _ _ _ 32 _ (nb (((leN l : Nat) : Int) ^ leN ((nb (((leN zer : Nat) : Int) - ((leN (smL 1) : Nat) : Int)))))) zer true (by rfl) rfl (Or.inl ⟨rfl, decide_eq_true (steps5 _ hz)⟩) Try.underlying23 Try.underlying5 num_info num_cells num_guard rfl rfl (nb_length _) zer_length ?_
  simp only [Act.put, List.setIfInBounds_toArray, List.set_cons_zero, List.set_cons_succ]
  refine det_pick _ _ _ true (.bool true) (by rfl) rfl rfl rfl ?_
  simp only [Act.put, List.setIfInBounds_toArray, List.set_cons_zero, List.set_cons_succ]
  refine det_move _ (.bool true) (by rfl) rfl rfl ?_
  simp only [Act.put, List.setIfInBounds_toArray, List.set_cons_zero, List.set_cons_succ]
  refine det_skip (by rfl) ?_
  simp only [Act.put, List.setIfInBounds_toArray, List.set_cons_zero, List.set_cons_succ]
  refine det_skip (by rfl) ?_
  simp only [Act.put, List.setIfInBounds_toArray, List.set_cons_zero, List.set_cons_succ]
  refine det_skip (by rfl) ?_
  simp only [Act.put, List.setIfInBounds_toArray, List.set_cons_zero, List.set_cons_succ]
  refine det_skip (by rfl) ?_
  simp only [Act.put, List.setIfInBounds_toArray, List.set_cons_zero, List.set_cons_succ]
  refine det_skip (by rfl) ?_
  simp only [Act.put, List.setIfInBounds_toArray, List.set_cons_zero, List.set_cons_succ]
  refine det_skip (by rfl) ?_
  simp only [Act.put, List.setIfInBounds_toArray, List.set_cons_zero, List.set_cons_succ]
  refine det_skip (by rfl) ?_
  simp only [Act.put, List.setIfInBounds_toArray, List.set_cons_zero, List.set_cons_succ]
  refine det_skip (by rfl) ?_
  simp only [Act.put, List.setIfInBounds_toArray, List.set_cons_zero, List.set_cons_succ]
  refine det_pick _ _ _ true (.bool true) (by rfl) rfl rfl rfl ?_
  simp only [Act.put, List.setIfInBounds_toArray, List.set_cons_zero, List.set_cons_succ]
  refine det_pick _ _ _ true (.bool true) (by rfl) rfl rfl rfl ?_
  simp only [Act.put, List.setIfInBounds_toArray, List.set_cons_zero, List.set_cons_succ]
  refine det_assign _ (.bool true) (by rfl) rfl rfl ?_
  simp only [Act.put, List.setIfInBounds_toArray, List.set_cons_zero, List.set_cons_succ]
  refine det_nil ((fun w9 hw9 => ?_))
  go_wp2_with fail
  go_ret
  exact ⟨rfl, HE.out.trans hw9⟩

set_option maxRecDepth 100000 in
set_option maxHeartbeats 8000000 in
theorem fieldSteps_non (l : List UInt8) (x y : UInt8) (w : World) (hl : l.length = 32) (hz : nb ((leN l : Nat) : Int) ≠ zer) :
    Calls Try.prog 8 #[.agg (l.map bval).toArray, .int .u8 (x.toNat : Int), .int .u8 (y.toNat : Int)] w fun e w' => e = .returned (.bool true) ∧ Below w.heap.size w w' := by
  have HLl := Lib.hid hl
  have HIl : Hid ((Try.prog.info? 23).map (·.size) = some (l.map bval).length) := Lib.hid (by rw [List.length_map, hl]; exact Try.arr23)
  have HB := Lib.hid (Blk.made w (l.map bval) 23)
  have HA0 := Lib.hid (Ext.alloc w (.cells (l.map bval).toArray 23))
  clear hl
  go_enter Try.func8, Try.ntmps8
  go_wp2_with fail
  change Calls _ _ _ (w.alloc (.cells (l.map bval).toArray 23)) _
  generalize w.alloc (.cells (l.map bval).toArray 23) = w0 at *
  have h1 := HB.out
  have hE := HA0.out
  obtain ⟨A, hA⟩ : ∃ A, A = w.heap.size := ⟨_, rfl⟩
  rw [← hA] at h1 ⊢
  have hA2 : w.heap.size ≤ A := by omega
  have H1 := Lib.hid h1
  have HE : Hid (Ext w w0) := Lib.hid hE
  clear h1 hE HB hA HA0
  refine (alive_any _).mono ?_
  rintro e wa ⟨rfl, hb⟩
  have H1 := Lib.hid (ext_blk H1.out hb)
  have HE := Lib.hid (HE.out.trans hb)
  clear hb
  have hDA : A < wa.heap.size := H1.out.lt
  have HD := Lib.hid (Blk.made wa zero32 23)
  have HX := Lib.hid (Ext.alloc wa (.cells zero32.toArray 23))
  have HK1 := Lib.hid (ext_blk H1.out HX.out)
  have HQ1 := Lib.hid (sum_cells x y)
  go_wp2_with (refine wpList_store_blk rfl _ _ _ rfl wa.heap.size (.int .u8 _ :: .int .u8 _ :: List.replicate 30 (.int .u8 0)) rfl rfl _ _ HD.out (sum_len _ _) (sum_size _ _) sum_one ?_; intro w5 hb5 hg5)
  rw [HQ1.out] at hb5
  have H1 := Lib.hid (HK1.out.grown hg5 (by simp; omega))
  have HE := Lib.hid (ext_grown (HE.out.trans HX.out) hg5 (by omega))
  have HS : Hid (Blk w5 wa.heap.size ((sumL x y).map bval) 23) := Lib.hid hb5
  generalize wa.heap.size = D at *
  clear hb5 hg5
  refine wp_region_all (by kernel_rfl) (by kernel_rfl) ?_
  refine det_load _ _ A (l.map bval) _ (by rfl) rfl rfl (fun w hw => ext_range H1.out hw) Try.underlying23 rfl HIl.out ?_
  simp only [Act.put, List.setIfInBounds_toArray, List.set_cons_zero, List.set_cons_succ]
  refine det_load _ _ D ((sumL x y).map bval) _ (by rfl) rfl rfl (fun w hw => ext_range HS.out hw) Try.underlying23 rfl (sumL_size _ _) ?_
  simp only [Act.put, List.setIfInBounds_toArray, List.set_cons_zero, List.set_cons_succ]
  refine det_call _ _ _ [.agg (l.map bval).toArray, .agg ((sumL x y).map bval).toArray] (.agg ((nb (((leN l : Nat) : Int) ^ leN ((sumL x y)))).map bval).toArray) (by rfl) rfl Try.call20 rfl (fun w hw => Pow_num l (sumL x y) w HLl.out (sumL_length _ _)) ?_
  simp only [Act.put, List.setIfInBounds_toArray, List.set_cons_zero, List.set_cons_succ]
  refine det_load _ _ A (l.map bval) _ (by rfl) rfl rfl (fun w hw => ext_range H1.out hw) Try.underlying23 rfl HIl.out ?_
  simp only [Act.put, List.setIfInBounds_toArray, List.set_cons_zero, List.set_cons_succ]
  refine det_move _ (.int .u8 ((x : UInt8).toNat : Int)) (by rfl) rfl rfl ?_
  simp only [Act.put, List.setIfInBounds_toArray, List.set_cons_zero, List.set_cons_succ]
  refine det_call _ _ _ [.int .u8 ((x : UInt8).toNat : Int)] (.agg ((smL x).map bval).toArray) (by rfl) rfl Try.call25 rfl (fun w hw => small_any x w) ?_
  simp only [Act.put, List.setIfInBounds_toArray, List.set_cons_zero, List.set_cons_succ]
  refine det_call _ _ _ [.agg (l.map bval).toArray, .agg ((smL x).map bval).toArray] (.agg ((nb (((leN l : Nat) : Int) ^ leN ((smL x)))).map bval).toArray) (by rfl) rfl Try.call20 rfl (fun w hw => Pow_num l (smL x) w HLl.out (smL_length _)) ?_
  simp only [Act.put, List.setIfInBounds_toArray, List.set_cons_zero, List.set_cons_succ]
  refine det_load _ _ A (l.map bval) _ (by rfl) rfl rfl (fun w hw => ext_range H1.out hw) Try.underlying23 rfl HIl.out ?_
  simp only [Act.put, List.setIfInBounds_toArray, List.set_cons_zero, List.set_cons_succ]
  refine det_move _ (.int .u8 ((y : UInt8).toNat : Int)) (by rfl) rfl rfl ?_
  simp only [Act.put, List.setIfInBounds_toArray, List.set_cons_zero, List.set_cons_succ]
  refine det_call _ _ _ [.int .u8 ((y : UInt8).toNat : Int)] (.agg ((smL y).map bval).toArray) (by rfl) rfl Try.call25 rfl (fun w hw => small_any y w) ?_
  simp only [Act.put, List.setIfInBounds_toArray, List.set_cons_zero, List.set_cons_succ]
  refine det_call _ _ _ [.agg (l.map bval).toArray, .agg ((smL y).map bval).toArray] (.agg ((nb (((leN l : Nat) : Int) ^ leN ((smL y)))).map bval).toArray) (by rfl) rfl Try.call20 rfl (fun w hw => Pow_num l (smL y) w HLl.out (smL_length _)) ?_
  simp only [Act.put, List.setIfInBounds_toArray, List.set_cons_zero, List.set_cons_succ]
  refine det_call _ _ _ [.agg ((nb (((leN l : Nat) : Int) ^ leN ((smL x)))).map bval).toArray, .agg ((nb (((leN l : Nat) : Int) ^ leN ((smL y)))).map bval).toArray] (.agg ((nb (((leN (nb (((leN l : Nat) : Int) ^ leN ((smL x)))) : Nat) : Int) * ((leN (nb (((leN l : Nat) : Int) ^ leN ((smL y)))) : Nat) : Int))).map bval).toArray) (by rfl) rfl Try.call18 rfl (fun w hw => Mul_num (nb (((leN l : Nat) : Int) ^ leN ((smL x)))) (nb (((leN l : Nat) : Int) ^ leN ((smL y)))) w (nb_length _) (nb_length _)) ?_
  simp only [Act.put, List.setIfInBounds_toArray, List.set_cons_zero, List.set_cons_succ]
  refine det_eql _ _ _ _ _ _ 32 _ (nb (((leN l : Nat) : Int) ^ leN ((sumL x y)))) (nb (((leN (nb (((leN l : Nat) : Int) ^ leN ((smL x)))) : Nat) : Int) * ((leN (nb (((leN l : Nat) : Int) ^ leN ((smL y)))) : Nat) : Int))) true (by rfl) rfl (Or.inl ⟨rfl, decide_eq_true (steps1 _ _ _)⟩) Try.underlying23 Try.underlying5 num_info num_cells num_guard rfl rfl (nb_length _) (nb_length _) ?_
  simp only [Act.put, List.setIfInBounds_toArray, List.set_cons_zero, List.set_cons_succ]
  refine det_assign _ (.bool true) (by rfl) rfl rfl ?_
  simp only [Act.put, List.setIfInBounds_toArray, List.set_cons_zero, List.set_cons_succ]
  refine det_nil ((fun w3 hw3 => ?_))
  have H1 := Lib.hid (ext_blk H1.out hw3)
  have HE := Lib.hid (HE.out.trans hw3)
  clear hw3
  go_wp2_with fail
  refine wp_region_from 5 2 6 rfl (by kernel_rfl) (by kernel_rfl) (fun d v c a w h => by cases d <;> exact h) (by kernel_rfl) ?_
  refine det_load _ _ A (l.map bval) _ (by rfl) rfl rfl (fun w hw => ext_range H1.out hw) Try.underlying23 rfl HIl.out ?_
  simp only [Act.put, List.setIfInBounds_toArray, List.set_cons_zero, List.set_cons_succ]
  refine det_val (.agg (zer.map bval).toArray) (by rfl) (fun w hw => by unfold execOp; simp [build_zer]) ?_
  simp only [Act.put, List.setIfInBounds_toArray, List.set_cons_zero, List.set_cons_succ]
  refine det_call _ _ _ [.int .u8 ((1 : UInt8).toNat : Int)] (.agg ((smL 1).map bval).toArray) (by rfl) rfl Try.call25 rfl (fun w hw => small_any 1 w) ?_
  simp only [Act.put, List.setIfInBounds_toArray, List.set_cons_zero, List.set_cons_succ]
  refine det_call _ _ _ [.agg (zer.map bval).toArray, .agg ((smL 1).map bval).toArray] (.agg ((nb (((leN zer : Nat) : Int) - ((leN (smL 1) : Nat) : Int))).map bval).toArray) (by rfl) rfl Try.call16 rfl (fun w hw => Sub_num zer (smL 1) w zer_length (smL_length _)) ?_
  simp only [Act.put, List.setIfInBounds_toArray, List.set_cons_zero, List.set_cons_succ]
  refine det_call _ _ _ [.agg (l.map bval).toArray, .agg ((nb (((leN zer : Nat) : Int) - ((leN (smL 1) : Nat) : Int))).map bval).toArray] (.agg ((nb (((leN l : Nat) : Int) ^ leN ((nb (((leN zer : Nat) : Int) - ((leN (smL 1) : Nat) : Int)))))).map bval).toArray) (by rfl) rfl Try.call20 rfl (fun w hw => Pow_num l (nb (((leN zer : Nat) : Int) - ((leN (smL 1) : Nat) : Int))) w HLl.out (nb_length _)) ?_
  simp only [Act.put, List.setIfInBounds_toArray, List.set_cons_zero, List.set_cons_succ]
  refine det_nil (end_var (k := 5) _ 10 (.tmp 45) zero32 ((nb (((leN l : Nat) : Int) ^ leN ((nb (((leN zer : Nat) : Int) - ((leN (smL 1) : Nat) : Int)))))).map bval) rfl rfl (by kernel_rfl) (by kernel_rfl) (by kernel_rfl) (by kernel_rfl) (by kernel_rfl) rfl rfl rfl rfl Try.zeroValue23 rfl (by simp) (fun p => rfl) (nb_len _) (nb_size _) (bval_one _) (fun p wv hpv hbv hev => ?_))
  simp only [Act.put, List.setIfInBounds_toArray, List.set_cons_zero, List.set_cons_succ]
  have H1 := Lib.hid (ext_blk H1.out hev)
  have HE := Lib.hid (HE.out.trans hev)
  have HY := Lib.hid hbv
  clear hbv hev hpv
  go_wp2_with (refine wpList_load_blk rfl _ _ rfl A rfl _ _ _ _ H1.out Try.underlying23 HIl.out ?_)
  refine (Canon_num l _ HLl.out).mono ?_
  rintro e wc ⟨rfl, hb⟩
  have H1 := Lib.hid (ext_blk H1.out hb)
  have HY := Lib.hid (ext_blk HY.out hb)
  have HE := Lib.hid (HE.out.trans hb)
  clear hb
  have hpC : p < wc.heap.size := HY.out.lt
  have hAC : A < wc.heap.size := H1.out.lt
  have HD := Lib.hid (Blk.made wc zero32 23)
  have HX := Lib.hid (Ext.alloc wc (.cells zero32.toArray 23))
  have HK1 := Lib.hid (ext_blk H1.out HX.out)
  have HKY := Lib.hid (ext_blk HY.out HX.out)
  go_wp2_with (refine wpList_store_blk rfl _ _ _ rfl wc.heap.size ((nb (((leN l : Nat) : Int))).map bval) rfl rfl _ _ HD.out (nb_len _) (nb_size _) (bval_one _) ?_; intro w5 hb5 hg5)
  have H1 := Lib.hid (HK1.out.grown hg5 (by simp; omega))
  have HY := Lib.hid (HKY.out.grown hg5 (by simp; omega))
  have HE := Lib.hid (ext_grown (HE.out.trans HX.out) hg5 (HE.out.size))
  have HC := Lib.hid hb5
  clear hb5 hg5
  generalize wc.heap.size = G at *
  refine wp_region_all (by kernel_rfl) (by kernel_rfl) ?_
  refine det_move _ (.bool true) (by rfl) rfl rfl ?_
  simp only [Act.put, List.setIfInBounds_toArray, List.set_cons_zero, List.set_cons_succ]
  refine det_move _ (.bool true) (by rfl) rfl rfl ?_
  simp only [Act.put, List.setIfInBounds_toArray, List.set_cons_zero, List.set_cons_succ]
  refine det_move _ (.bool true) (by rfl) rfl rfl ?_
  simp only [Act.put, List.setIfInBounds_toArray, List.set_cons_zero, List.set_cons_succ]
  refine det_pick _ _ _ true (.bool true) (by rfl) rfl rfl rfl ?_
  simp only [Act.put, List.setIfInBounds_toArray, List.set_cons_zero, List.set_cons_succ]
  refine det_move _ (.bool true) (by rfl) rfl rfl ?_
  simp only [Act.put, List.setIfInBounds_toArray, List.set_cons_zero, List.set_cons_succ]
  refine det_load _ _ A (l.map bval) _ (by rfl) rfl rfl (fun w hw => ext_range H1.out hw) Try.underlying23 rfl HIl.out ?_
  simp only [Act.put, List.setIfInBounds_toArray, List.set_cons_zero, List.set_cons_succ]
  refine det_call _ _ _ [.int .u8 ((2 : UInt8).toNat : Int)] (.agg ((smL 2).map bval).toArray) (by rfl) rfl Try.call25 rfl (fun w hw => small_any 2 w) ?_
  simp only [Act.put, List.setIfInBounds_toArray, List.set_cons_zero, List.set_cons_succ]
  refine det_call _ _ _ [.agg (l.map bval).toArray, .agg ((smL 2).map bval).toArray] (.agg ((nb (((leN l : Nat) : Int) ^ leN ((smL 2)))).map bval).toArray) (by rfl) rfl Try.call20 rfl (fun w hw => Pow_num l (smL 2) w HLl.out (smL_length _)) ?_
  simp only [Act.put, List.setIfInBounds_toArray, List.set_cons_zero, List.set_cons_succ]
  refine det_load _ _ A (l.map bval) _ (by rfl) rfl rfl (fun w hw => ext_range H1.out hw) Try.underlying23 rfl HIl.out ?_
  simp only [Act.put, List.setIfInBounds_toArray, List.set_cons_zero, List.set_cons_succ]
  refine det_load _ _ A (l.map bval) _ (by rfl) rfl rfl (fun w hw => ext_range H1.out hw) Try.underlying23 rfl HIl.out ?_
  simp only [Act.put, List.setIfInBounds_toArray, List.set_cons_zero, List.set_cons_succ]
  refine det_call _ _ _ [.agg (l.map bval).toArray, .agg (l.map bval).toArray] (.agg ((nb (((leN l : Nat) : Int) * ((leN l : Nat) : Int))).map bval).toArray) (by rfl) rfl Try.call18 rfl (fun w hw => Mul_num l l w HLl.out HLl.out) ?_
  simp only [Act.put, List.setIfInBounds_toArray, List.set_cons_zero, List.set_cons_succ]
  refine det_eql _ _ _ _ _ _ 32 _ (nb (((leN l : Nat) : Int) ^ leN ((smL 2)))) (nb (((leN l : Nat) : Int) * ((leN l : Nat) : Int))) true (by rfl) rfl (Or.inl ⟨rfl, decide_eq_true (steps2 _)⟩) Try.underlying23 Try.underlying5 num_info num_cells num_guard rfl rfl (nb_length _) (nb_length _) ?_
  simp only [Act.put, List.setIfInBounds_toArray, List.set_cons_zero, List.set_cons_succ]
  refine det_pick _ _ _ true (.bool true) (by rfl) rfl rfl rfl ?_
  simp only [Act.put, List.setIfInBounds_toArray, List.set_cons_zero, List.set_cons_succ]
  refine det_move _ (.bool true) (by rfl) rfl rfl ?_
  simp only [Act.put, List.setIfInBounds_toArray, List.set_cons_zero, List.set_cons_succ]
  refine det_load _ _ A (l.map bval) _ (by rfl) rfl rfl (fun w hw => ext_range H1.out hw) Try.underlying23 rfl HIl.out ?_
  simp only [Act.put, List.setIfInBounds_toArray, List.set_cons_zero, List.set_cons_succ]
  refine det_call _ _ _ [.int .u8 ((1 : UInt8).toNat : Int)] (.agg ((smL 1).map bval).toArray) (by rfl) rfl Try.call25 rfl (fun w hw => small_any 1 w) ?_
  simp only [Act.put, List.setIfInBounds_toArray, List.set_cons_zero, List.set_cons_succ]
  refine det_call _ _ _ [.agg (l.map bval).toArray, .agg ((smL 1).map bval).toArray] (.agg ((nb (((leN l : Nat) : Int) ^ leN ((smL 1)))).map bval).toArray) (by rfl) rfl Try.call20 rfl (fun w hw => Pow_num l (smL 1) w HLl.out (smL_length _)) ?_
  simp only [Act.put, List.setIfInBounds_toArray, List.set_cons_zero, List.set_cons_succ]
  refine det_load _ _ G ((nb (((leN l : Nat) : Int))).map bval) _ (by rfl) rfl rfl (fun w hw => ext_range HC.out hw) Try.underlying23 rfl (nb_size _) ?_
  simp only [Act.put, List.setIfInBounds_toArray, List.set_cons_zero, List.set_cons_succ]
  refine det_eql _ _ _ _ _ _ 32 _ (nb (((leN l : Nat) : Int) ^ leN ((smL 1)))) (nb (((leN l : Nat) : Int))) true (by rfl) rfl (Or.inl ⟨rfl, decide_eq_true (steps3 _)⟩) Try.underlying23 Try.underlying5 num_info num_cells num_guard rfl rfl (nb_length _) (nb_length _) ?_
  simp only [Act.put, List.setIfInBounds_toArray, List.set_cons_zero, List.set_cons_succ]
  refine det_pick _ _ _ true (.bool true) (by rfl) rfl rfl rfl ?_
  simp only [Act.put, List.setIfInBounds_toArray, List.set_cons_zero, List.set_cons_succ]
  refine det_move _ (.bool true) (by rfl) rfl rfl ?_
  simp only [Act.put, List.setIfInBounds_toArray, List.set_cons_zero, List.set_cons_succ]
  refine det_load _ _ A (l.map bval) _ (by rfl) rfl rfl (fun w hw => ext_range H1.out hw) Try.underlying23 rfl HIl.out ?_
  simp only [Act.put, List.setIfInBounds_toArray, List.set_cons_zero, List.set_cons_succ]
  refine det_val (.agg (zer.map bval).toArray) (by rfl) (fun w hw => by unfold execOp; simp [build_zer]) ?_
  simp only [Act.put, List.setIfInBounds_toArray, List.set_cons_zero, List.set_cons_succ]
  refine det_call _ _ _ [.agg (l.map bval).toArray, .agg (zer.map bval).toArray] (.agg ((nb (((leN l : Nat) : Int) ^ leN zer)).map bval).toArray) (by rfl) rfl Try.call20 rfl (fun w hw => Pow_num l zer w HLl.out zer_length) ?_
  simp only [Act.put, List.setIfInBounds_toArray, List.set_cons_zero, List.set_cons_succ]
  refine det_call _ _ _ [.int .u8 ((1 : UInt8).toNat : Int)] (.agg ((smL 1).map bval).toArray) (by rfl) rfl Try.call25 rfl (fun w hw => small_any 1 w) ?_
  simp only [Act.put, List.setIfInBounds_toArray, List.set_cons_zero, List.set_cons_succ]
  refine det_eql _ _ _ _ _ _ 32 _ (nb (((leN l : Nat) : Int) ^ leN zer)) (smL 1) true (by rfl) rfl (Or.inl ⟨rfl, decide_eq_true (steps4 _)⟩) Try.underlying23 Try.underlying5 num_info num_cells num_guard rfl rfl (nb_length _) (smL_length _) ?_
  simp only [Act.put, List.setIfInBounds_toArray, List.set_cons_zero, List.set_cons_succ]
  refine det_pick _ _ _ true (.bool true) (by rfl) rfl rfl rfl ?_
  simp only [Act.put, List.setIfInBounds_toArray, List.set_cons_zero, List.set_cons_succ]
  refine det_move _ (.bool true) (by rfl) rfl rfl ?_
  simp only [Act.put, List.setIfInBounds_toArray, List.set_cons_zero, List.set_cons_succ]
  refine det_load _ _ G ((nb (((leN l : Nat) : Int))).map bval) _ (by rfl) rfl rfl (fun w hw => ext_range HC.out hw) Try.underlying23 rfl (nb_size _) ?_
  simp only [Act.put, List.setIfInBounds_toArray, List.set_cons_zero, List.set_cons_succ]
  refine det_val (.agg (zer.map bval).toArray) (by rfl) (fun w hw => by unfold execOp; simp [build_zer]) ?_
  simp only [Act.put, List.setIfInBounds_toArray, List.set_cons_zero, List.set_cons_succ]
  refine det_eql _ _ _ _ _ _ 32 _ (nb (((leN l : Nat) : Int))) zer false (by rfl) rfl (Or.inl ⟨rfl, decide_eq_false hz⟩) Try.underlying23 Try.underlying5 num_info num_cells num_guard rfl rfl (nb_length _) zer_length ?_
  simp only [Act.put, List.setIfInBounds_toArray, List.set_cons_zero, List.set_cons_succ]
  refine det_move _ (.bool false) (by rfl) rfl rfl ?_
  simp only [Act.put, List.setIfInBounds_toArray, List.set_cons_zero, List.set_cons_succ]
  refine det_skip (by rfl) ?_
  simp only [Act.put, List.setIfInBounds_toArray, List.set_cons_zero, List.set_cons_succ]
  refine det_skip (by rfl) ?_
  simp only [Act.put, List.setIfInBounds_toArray, List.set_cons_zero, List.set_cons_succ]
  refine det_skip (by rfl) ?_
  simp only [Act.put, List.setIfInBounds_toArray, List.set_cons_zero, List.set_cons_succ]
  refine det_pick _ _ _ false (.bool false) (by rfl) rfl rfl rfl ?_
  simp only [Act.put, List.setIfInBounds_toArray, List.set_cons_zero, List.set_cons_succ]
  refine det_move _ (.bool false) (by rfl) rfl rfl ?_
  simp only [Act.put, List.setIfInBounds_toArray, List.set_cons_zero, List.set_cons_succ]
  refine det_load _ _ G ((nb (((leN l : Nat) : Int))).map bval) _ (by rfl) rfl rfl (fun w hw => ext_range HC.out hw) Try.underlying23 rfl (nb_size _) ?_
  simp only [Act.put, List.setIfInBounds_toArray, List.set_cons_zero, List.set_cons_succ]
  refine det_val (.agg (zer.map bval).toArray) (by rfl) (fun w hw => by unfold execOp; simp [build_zer]) ?_
  simp only [Act.put, List.setIfInBounds_toArray, List.set_cons_zero, List.set_cons_succ]
  refine det_eql _ _ _ _ _ _ 32 _ (nb (((leN l : Nat) : Int))) zer true (by rfl) rfl (Or.inr ⟨rfl, decide_eq_false hz⟩) Try.underlying23 Try.underlying5 num_info num_cells num_guard rfl rfl (nb_length _) zer_length ?_
  simp only [Act.put, List.setIfInBounds_toArray, List.set_cons_zero, List.set_cons_succ]
  refine det_move _ (.bool true) (by rfl) rfl rfl ?_
  simp only [Act.put, List.setIfInBounds_toArray, List.set_cons_zero, List.set_cons_succ]
  refine det_load _ _ p ((nb (((leN l : Nat) : Int) ^ leN ((nb (((leN zer : Nat) : Int) - ((leN (smL 1) : Nat) : Int)))))).map bval) _ (by rfl) rfl rfl (fun w hw => ext_range HY.out hw) Try.underlying23 rfl (nb_size _) ?_
  simp only [Act.put, List.setIfInBounds_toArray, List.set_cons_zero, List.set_cons_succ]
  refine det_call _ _ _ [.int .u8 ((1 : UInt8).toNat : Int)] (.agg ((smL 1).map bval).toArray) (by rfl) rfl Try.call25 rfl (fun w hw => small_any 1 w) ?_
  simp only [Act.put, List.setIfInBounds_toArray, List.set_cons_zero, List.set_cons_succ]
  refine det_eql _ _ _ _ _ _ 32 _ (nb (((leN l : Nat) : Int) ^ leN ((nb (((leN zer : Nat) : Int) - ((leN (smL 1) : Nat) : Int)))))) (smL 1) true (by rfl) rfl (Or.inl ⟨rfl, decide_eq_true (steps6 _ hz)⟩) Try.underlying23 Try.underlying5 num_info num_cells num_guard rfl rfl (nb_length _) (smL_length _) ?_
  simp only [Act.put, List.setIfInBounds_toArray, List.set_cons_zero, List.set_cons_succ]
  refine det_pick _ _ _ true (.bool true) (by rfl) rfl rfl rfl ?_
  simp only [Act.put, List.setIfInBounds_toArray, List.set_cons_zero, List.set_cons_succ]
  refine det_pick _ _ _ false (.bool true) (by rfl) rfl rfl rfl ?_
  simp only [Act.put, List.setIfInBounds_toArray, List.set_cons_zero, List.set_cons_succ]
  refine det_pick _ _ _ true (.bool true) (by rfl) rfl rfl rfl ?_
  simp only [Act.put, List.setIfInBounds_toArray, List.set_cons_zero, List.set_cons_succ]
  refine det_assign _ (.bool true) (by rfl) rfl rfl ?_
  simp only [Act.put, List.setIfInBounds_toArray, List.set_cons_zero, List.set_cons_succ]
  refine det_nil ((fun w9 hw9 => ?_))
  go_wp2_with fail
  go_ret
  exact ⟨rfl, HE.out.trans hw9⟩

theorem fieldSteps_any (l : List UInt8) (x y : UInt8) (w : World) (hl : l.length = 32) :
    Calls Try.prog 8 #[.agg (l.map bval).toArray, .int .u8 (x.toNat : Int), .int .u8 (y.toNat : Int)] w fun e w' => e = .returned (.bool true) ∧ Below w.heap.size w w' := by
  by_cases hz : nb ((leN l : Nat) : Int) = zer
  · exact fieldSteps_zero l x y w hl hz
  · exact fieldSteps_non l x y w hl hz

end Go.Proofs.Ytmiapjmdolecbaa
