/- The walks of the document's own public number and secret. Each theorem names its own conditions. -/
import Derived.Test.YtdjdalaghfknoaaRefLadW
import Derived.Test.YtdjdalaghfknoaaDetEql
namespace Go.Proofs.Ytdjdalaghfknoaa
open Go.RowKit
set_option linter.unusedVariables false
set_option linter.unusedSimpArgs false

theorem build_num (w : World) : (Instr.build 23 #[]).run Try.prog w = .ok (.agg (zer.map bval).toArray) w := by
  simp [Instr.build, Try.zeroValue23]
  rfl

set_option maxRecDepth 100000 in
set_option maxHeartbeats 4000000 in
theorem rladpub_any (k : List UInt8) (w : World) (hk : k.length = 32) : Calls Try.prog 17 #[.agg (k.map bval).toArray] w fun e w' => e = .returned (.agg ((pubB k).map bval).toArray) ∧ Below w.heap.size w w' := by
  have HB := Lib.hid (boxes3 w (k.map bval) (ints .u8 (List.replicate 32 0)) (nineB.map bval) 23 23 23)
  have HKL := Lib.hid hk
  clear hk
  go_enter Try.func17, Try.ntmps17
  go_upto_region 3 with (fail)
  obtain ⟨H1, H2, H3, HE⟩ := HB.out
  change Code.wp _ _ _ _ (((w.alloc (.cells (k.map bval).toArray 23)).alloc (.cells (ints .u8 (List.replicate 32 0)).toArray 23)).alloc (.cells (nineB.map bval).toArray 23))
  generalize ((w.alloc (.cells (k.map bval).toArray 23)).alloc (.cells (ints .u8 (List.replicate 32 0)).toArray 23)).alloc (.cells (nineB.map bval).toArray 23) = wa at *
  obtain ⟨A, hA⟩ : ∃ A, A = w.heap.size := ⟨_, rfl⟩
  have HAW : Hid (w.heap.size ≤ A) := Lib.hid (by omega)
  rw [← hA] at H1 H2 H3 ⊢
  have H1 := Lib.hid H1
  have H2 := Lib.hid H2
  have H3 := Lib.hid H3
  have HE : Hid (Ext w wa) := Lib.hid HE
  clear hA HB
  have HIK := Lib.hid (num_size HKL.out)
  have HIN := Lib.hid (num_size nineB_length)
  have HIP : Hid ((Try.prog.info? 23).map (·.size) = some ((pubB k).map bval).length) := Lib.hid (num_size (ladB_length _ _))
  have HLP : Hid (((pubB k).map bval).length = (ints .u8 (List.replicate 32 0)).length) := Lib.hid (by rw [List.length_map, ints_length]; exact ladB_length _ _)
  have HC := Lib.hid (rladder_any k nineB wa HKL.out nineB_length)
  generalize nineB.map bval = nb9 at *
  go_wp2_with (first | (refine wpList_load_blk rfl _ _ rfl A rfl _ _ _ _ H1.out Try.underlying23 HIK.out ?_) | (refine wpList_load_blk rfl _ _ rfl (A + 1 + 1) rfl _ _ _ _ H3.out Try.underlying23 HIN.out ?_))
  refine HC.out.mono ?_
  rintro e w5 ⟨rfl, hb⟩
  have HP : Hid (ladB k nineB = pubB k) := Lib.hid rfl
  rw [HP.out]
  have H2 := Lib.hid (ext_blk H2.out hb)
  have HE := Lib.hid (HE.out.trans hb)
  clear hb HC
  go_wp2_with (refine wpList_store_blk rfl _ _ _ rfl (A + 1) ((pubB k).map bval) rfl rfl _ _ H2.out HLP.out HIP.out (bval_one _) ?_; intro w6 hb6 hg6)
  refine bodyPost_ret (result_blk rfl _ (A + 1) _ _ _ _ rfl hb6 Try.underlying23 HIP.out) rfl ?_
  exact ⟨rfl, ext_grown HE.out hg6 (by have := HAW.out; omega)⟩

set_option maxRecDepth 100000 in
set_option maxHeartbeats 4000000 in
theorem rshared_any (k u : List UInt8) (w : World) (hk : k.length = 32) (hu : u.length = 32) : Calls Try.prog 12 #[.agg (k.map bval).toArray, .agg (u.map bval).toArray] w fun e w' => e = .returned (.tuple #[.agg ((ladB k u).map bval).toArray, .int .i64 (shErr k u)]) ∧ Below w.heap.size w w' := by
  have HB := Lib.hid (boxes3 w (k.map bval) (u.map bval) (ints .u8 (List.replicate 32 0)) 23 23 23)
  have HKL := Lib.hid hk
  have HUL := Lib.hid hu
  clear hk hu
  go_enter Try.func12, Try.ntmps12
  go_upto_region 1 with (fail)
  obtain ⟨H1, H2, H3, HE⟩ := HB.out
  change Code.wp _ _ _ _ (((w.alloc (.cells (k.map bval).toArray 23)).alloc (.cells (u.map bval).toArray 23)).alloc (.cells (ints .u8 (List.replicate 32 0)).toArray 23))
  generalize ((w.alloc (.cells (k.map bval).toArray 23)).alloc (.cells (u.map bval).toArray 23)).alloc (.cells (ints .u8 (List.replicate 32 0)).toArray 23) = wa at *
  obtain ⟨A, hA⟩ : ∃ A, A = w.heap.size := ⟨_, rfl⟩
  have HAW : Hid (w.heap.size ≤ A) := Lib.hid (by omega)
  rw [← hA] at H1 H2 H3 ⊢
  have H1 := Lib.hid H1
  have H2 := Lib.hid H2
  have H3 := Lib.hid H3
  have HE : Hid (Ext w wa) := Lib.hid HE
  clear hA HB
  have HIK := Lib.hid (num_size HKL.out)
  have HIU := Lib.hid (num_size HUL.out)
  have HZL : Hid ((ladB k u).length = 32) := Lib.hid (ladB_length _ _)
  have HC := Lib.hid (rladder_any k u wa HKL.out HUL.out)
  obtain ⟨z, hz⟩ : ∃ z, z = ladB k u := ⟨_, rfl⟩
  have HZE : Hid (shErr k u = if z = zer then 21 else 0) := Lib.hid (by rw [hz]; rfl)
  rw [← hz] at HC HZL
  have HZQ := Lib.hid hz
  clear hz
  have HIZ := Lib.hid (num_size HZL.out)
  have HLZ : Hid ((z.map bval).length = (ints .u8 (List.replicate 32 0)).length) := Lib.hid (by rw [List.length_map, ints_length, HZL.out]; rfl)
  go_wp2_with (first | (refine wpList_load_blk rfl _ _ rfl A rfl _ _ _ _ H1.out Try.underlying23 HIK.out ?_) | (refine wpList_load_blk rfl _ _ rfl (A + 1) rfl _ _ _ _ H2.out Try.underlying23 HIU.out ?_))
  refine HC.out.mono ?_
  rintro e w5 ⟨rfl, hb⟩
  have H3 := Lib.hid (ext_blk H3.out hb)
  have HE := Lib.hid (HE.out.trans hb)
  clear hb HC H1 H2
  have HZ := Lib.hid (Blk.made w5 (ints .u8 (List.replicate 32 0)) 23)
  have HEA := Lib.hid (Ext.alloc w5 (.cells (ints .u8 (List.replicate 32 0)).toArray 23))
  have HDL := Lib.hid H3.out.lt
  have H3 := Lib.hid (ext_blk H3.out HEA.out)
  have HE := Lib.hid (HE.out.trans HEA.out)
  go_upto_region 2 with (refine wpList_store_blk rfl _ _ _ rfl w5.heap.size (z.map bval) rfl rfl _ _ HZ.out HLZ.out HIZ.out (bval_one _) ?_; intro w6 hb6 hg6)
  have H3 := Lib.hid (H3.out.grown hg6 (by have := HDL.out; simp; omega))
  have HE := Lib.hid (ext_grown HE.out hg6 (by have := HDL.out; have := HAW.out; omega))
  have HD := Lib.hid hb6
  generalize w5.heap.size = D at *
  clear hb6 hg6 HZ HEA HDL
  have hbz := build_num
  by_cases hzz : z = zer
  · have HZE : Hid (shErr k u = 21) := Lib.hid (by rw [HZE.out, if_pos hzz])
    have HQ := Lib.hid (decide_eq_true hzz)
    clear hzz
    go_wp2_with (first | (refine wpList_eql (by rfl) _ _ _ _ _ _ 32 _ z zer true rfl (Or.inl ⟨rfl, HQ.out⟩) Try.underlying23 Try.underlying5 num_info num_cells num_guard rfl rfl HZL.out zer_length ?_) | (refine wpList_load_blk rfl _ _ rfl D rfl _ _ _ _ HD.out Try.underlying23 HIZ.out ?_) | (refine wpList_store_blk rfl _ _ _ rfl (A + 1 + 1) (z.map bval) rfl rfl _ _ H3.out HLZ.out HIZ.out (bval_one _) ?_; intro w7 hb7 hg7))
    refine bodyPost_ret (result_row_tmp (p := 4) (u := 5) (by rfl) _ (A + 1 + 1) _ _ _ (by rfl) hb7 Try.underlying23 rfl HIZ.out) rfl ⟨by rw [HZE.out, ← HZQ.out]; rfl, ext_grown HE.out hg7 (by have := HAW.out; omega)⟩
  · have HZE : Hid (shErr k u = 0) := Lib.hid (by rw [HZE.out, if_neg hzz])
    have HQ := Lib.hid (decide_eq_false hzz)
    clear hzz
    go_wp2_with (first | (refine wpList_eql (by rfl) _ _ _ _ _ _ 32 _ z zer false rfl (Or.inl ⟨rfl, HQ.out⟩) Try.underlying23 Try.underlying5 num_info num_cells num_guard rfl rfl HZL.out zer_length ?_) | (refine wpList_load_blk rfl _ _ rfl D rfl _ _ _ _ HD.out Try.underlying23 HIZ.out ?_) | (refine wpList_store_blk rfl _ _ _ rfl (A + 1 + 1) (z.map bval) rfl rfl _ _ H3.out HLZ.out HIZ.out (bval_one _) ?_; intro w7 hb7 hg7))
    refine bodyPost_ret (result_row_tmp (p := 4) (u := 5) (by rfl) _ (A + 1 + 1) _ _ _ (by rfl) hb7 Try.underlying23 rfl HIZ.out) rfl ⟨by rw [HZE.out, ← HZQ.out]; rfl, ext_grown HE.out hg7 (by have := HAW.out; omega)⟩

end Go.Proofs.Ytdjdalaghfknoaa
