/- The walk of what every law of chapter 4 begins with: alive. Each theorem names its own conditions. -/
import Derived.Test.YtoebokeehhfboaaDoorSclMul
import Derived.Test.YtoebokeehhfboaaDoorDetEql
namespace Go.Proofs.YtoebokeehhfboaaDoor
open Go.RowKit
set_option linter.unusedVariables false
set_option linter.unusedSimpArgs false

theorem alive_nq : nq ((leN ([5].take 64) : Nat) : Int) = smL 5 := by decide +kernel

set_option maxRecDepth 100000 in
set_option maxHeartbeats 4000000 in
theorem alive_any (w : World) (hG : GlobT w) : Calls Tryd.prog 8 #[] w fun e w' => e = .returned (.bool true) ∧ Below w.heap.size w w' := by
  have HG := Lib.hid hG
  clear hG
  go_enter Tryd.func8, Tryd.ntmps8
  go_wp2_with fail
  have HE := Lib.hid (Ext.alloc w (.cells #[.int .u8 5] 5))
  have HRW : Hid (Row1 (w.alloc (.cells #[.int .u8 5] 5)) (.slice (some ⟨w.heap.size, 0, none⟩) 1 1) ([5].map bval)) := Lib.hid (Row1.made w _ _ _ _ _ rfl rfl rfl (by unfold maxLen; omega))
  refine (Reduce_num _ [5] _ HRW.out (HG.out.ext HE.out)).mono ?_
  rintro e w1 ⟨rfl, hb⟩
  have HE := Lib.hid (HE.out.trans hb)
  clear hb HRW
  go_wp2_with (refine wpList_eql (by rfl) _ _ _ _ _ _ 32 _ (nq ((leN ([5].take 64) : Nat) : Int)) (smL 5) true rfl (Or.inl ⟨rfl, decide_eq_true alive_nq⟩) Tryd.underlying25 Tryd.underlying5 num_info num_cells num_guard rfl rfl (nq_length _) (smL_length _) ?_)
  go_ret
  exact ⟨rfl, HE.out⟩

end Go.Proofs.YtoebokeehhfboaaDoor
