/- The walk of the document's own clamped. Each theorem names its own conditions. -/
import Derived.Test.YtdjdalaghfknoaaRefEl
import Derived.Test.YtdjdalaghfknoaaU8Kit
import Derived.Test.YtdjdalaghfknoaaNumKit
import Derived.Deep.CutRange
namespace Go.Proofs.Ytdjdalaghfknoaa
open Go.RowKit
set_option linter.unusedVariables false
set_option linter.unusedSimpArgs false

set_option maxRecDepth 100000 in
set_option maxHeartbeats 4000000 in
theorem rclamped_any (kb : List UInt8) (w : World) (hk : kb.length = 32) : Calls Try.prog 25 #[.agg (kb.map bval).toArray] w fun e w' => e = .returned (.agg ((clampB kb).map bval).toArray) ∧ Below w.heap.size w w' := by
  have HB := Lib.hid (boxes2 w (kb.map bval) (ints .u8 (List.replicate 32 0)) 23 23)
  have HKL := Lib.hid hk
  clear hk
  go_enter Try.func25, Try.ntmps25
  go_upto_region 1 with (fail)
  obtain ⟨H1, H2, HE⟩ := HB.out
  change Code.wp _ _ _ _ ((w.alloc (.cells (kb.map bval).toArray 23)).alloc (.cells (ints .u8 (List.replicate 32 0)).toArray 23))
  generalize (w.alloc (.cells (kb.map bval).toArray 23)).alloc (.cells (ints .u8 (List.replicate 32 0)).toArray 23) = wa at *
  obtain ⟨A, hA⟩ : ∃ A, A = w.heap.size := ⟨_, rfl⟩
  have HAW : Hid (w.heap.size ≤ A) := Lib.hid (by omega)
  rw [← hA] at H1 H2 ⊢
  have H1 := Lib.hid H1
  have H2 := Lib.hid H2
  have HE : Hid (Ext w wa) := Lib.hid HE
  clear hA HB
  obtain ⟨k1, hk1⟩ : ∃ k1, k1 = kb.set 0 (kb.getD 0 0 &&& 248) := ⟨_, rfl⟩
  have HX1 : Hid ((kb.map bval).set 0 (.int .u8 (bits .and .u8 ((kb.getD 0 0).toNat : Int) 248)) = k1.map bval) := Lib.hid (by
    have e1 := u8_and (kb.getD 0 0) 248
    rw [show (248 : Int) = ((248 : UInt8).toNat : Int) from rfl, e1, u8_set, hk1])
  have HL1 : Hid (k1.length = 32) := Lib.hid (by rw [hk1, List.length_set, HKL.out])
  have HX2 : Hid ((k1.map bval).set 31 (.int .u8 (bits .or .u8 (bits .and .u8 ((k1.getD 31 0).toNat : Int) 127) 64)) = (clampB kb).map bval) := Lib.hid (by
    have e1 := u8_and (k1.getD 31 0) 127
    have e2 := u8_or (k1.getD 31 0 &&& 127) 64
    rw [show (127 : Int) = ((127 : UInt8).toNat : Int) from rfl, show (64 : Int) = ((64 : UInt8).toNat : Int) from rfl, e1, e2, u8_set, hk1]
    rfl)
  have HCL := Lib.hid (clampB_length HKL.out)
  obtain ⟨cl, hcl⟩ : ∃ cl, cl = clampB kb := ⟨_, rfl⟩
  rw [← hcl] at HCL HX2
  have HCE := Lib.hid hcl
  clear hcl
  clear hk1
  have c1 := H1.out.cell 0
  rw [bval_get (by rw [HKL.out]; omega)] at c1
  have f1 := H1.out.free 0
  generalize ((kb.getD 0 0).toNat : Int) = q1 at *
  go_upto_region 2 with (fail)
  have HM := Lib.hid (H1.out.set 0 (.int .u8 (bits .and .u8 q1 248)))
  rw [HX1.out] at HM
  have H2 := Lib.hid (H2.out.far (a := ⟨A, 0, none⟩) (by simp) (.int .u8 (bits .and .u8 q1 248)))
  have HE := Lib.hid (Below.setCell HE.out (p := ⟨A, 0, none⟩) (by have := HAW.out; simp; omega) (.int .u8 (bits .and .u8 q1 248)))
  generalize bits .and .u8 q1 248 = v1 at *
  generalize wa.setCell ⟨A, 0, none⟩ (.int .u8 v1) = wb at *
  clear c1 f1 HX1 H1
  have c1 := HM.out.cell 31
  rw [bval_get (by rw [HL1.out]; omega)] at c1
  have f1 := HM.out.free 31
  generalize ((k1.getD 31 0).toNat : Int) = q2 at *
  go_upto_region 3 with (fail)
  have HM2 := Lib.hid (HM.out.set 31 (.int .u8 (bits .or .u8 (bits .and .u8 q2 127) 64)))
  rw [HX2.out] at HM2
  have H2 := Lib.hid (H2.out.far (a := ⟨A, 31, none⟩) (by simp) (.int .u8 (bits .or .u8 (bits .and .u8 q2 127) 64)))
  have HE := Lib.hid (Below.setCell HE.out (p := ⟨A, 31, none⟩) (by have := HAW.out; simp; omega) (.int .u8 (bits .or .u8 (bits .and .u8 q2 127) 64)))
  generalize bits .or .u8 (bits .and .u8 q2 127) 64 = v2 at *
  generalize wb.setCell ⟨A, 31, none⟩ (.int .u8 v2) = wc at *
  clear c1 f1 HX2 HM
  have HE : Hid (Ext w wc) := Lib.hid HE.out
  have HI : Hid ((Try.prog.info? 23).map (·.size) = some (cl.map bval).length) := Lib.hid (num_size HCL.out)
  have HLo : Hid ((cl.map bval).length = (ints .u8 (List.replicate 32 0)).length) := Lib.hid (by rw [List.length_map, HCL.out, ints_length, List.length_replicate])
  go_wp2_with (first | (refine wpList_load_blk rfl _ _ rfl A rfl _ _ _ _ HM2.out Try.underlying23 HI.out ?_) | (refine wpList_store_blk rfl _ _ _ rfl (A + 1) (cl.map bval) rfl rfl _ _ H2.out HLo.out HI.out (bval_one _) ?_; intro w5 hb5 hg5))
  refine bodyPost_ret (result_blk rfl _ (A + 1) _ _ _ _ rfl hb5 Try.underlying23 HI.out) rfl ?_
  exact ⟨by rw [HCE.out], ext_grown HE.out hg5 (by have := HAW.out; omega)⟩

end Go.Proofs.Ytdjdalaghfknoaa
