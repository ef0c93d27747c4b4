/- Texts that belong together, one behind the other. -/
import Derived.Lib.Mul64
import Derived.Laws.Bits64b
import Derived.Laws.Externs
import Derived.Laws.ResultCell
import Derived.Deep.MidRow
import Derived.WalkKit
import Derived.WalkSpells
import Derived.WalkLawsBesides
import Derived.Lib.Hide
import Derived.Deep.QuietTactic
import Derived.BigQuiet
import Derived.Deep.RegionHeld3
import Derived.Deep.AppendLies
import Derived.OneCell
import Derived.Deep.Quiet
import Derived.OrdersHeld
import Derived.Deep.RegionHeld
import Derived.ChangeKeysEq
import Derived.KernelRfl
import Derived.Test.YtckggbkoabmjiaaDoorQz01
import Derived.Test.YtckggbkoabmjiaaDoorQz03
import Derived.Test.YtckggbkoabmjiaaDoorQz05
namespace Go.Proofs.YtckggbkoabmjiaaDoor
set_option linter.unusedVariables false
set_option linter.unusedSimpArgs false
open Go.RowKit
set_option maxHeartbeats 4000000 in
theorem Canon_num (l : List UInt8) (w : World) (hl : l.length = 32) :
  Calls Tryd.prog 58 #[.agg (l.map bval).toArray] w fun e w' => e = .returned (numP (leN l)) ∧ Below w.heap.size w w' := by
 have HV := Lib.hid (numP_cong (limbsL_val l hl))
 have HLl := Lib.hid hl
 have HIl : Hid ((Tryd.prog.info? 23).map (·.size) = some (l.map bval).length) := Lib.hid (by rw [List.length_map, hl]; exact Tryd.arr23)
 have HB := Lib.hid (boxes2 w (l.map bval) zero32 23 23)
 clear hl
 go_enter Tryd.func58, Tryd.ntmps58
 go_wp2_with (refine wpList_load_blk rfl _ _ rfl w.heap.size rfl _ _ _ _ HB.out.1 Tryd.underlying23 HIl.out ?_)
 change Calls _ _ _ ((w.alloc (.cells (l.map bval).toArray 23)).alloc (.cells zero32.toArray 23)) _
 generalize (w.alloc (.cells (l.map bval).toArray 23)).alloc (.cells zero32.toArray 23) = w0 at *
 obtain ⟨h1, h2, h4⟩ := HB.out
 obtain ⟨A, hA⟩ : ∃ A, A = w.heap.size := ⟨_, rfl⟩
 rw [← hA] at h1 h2 ⊢
 have hA2 : w.heap.size ≤ A := by omega
 have H1 := Lib.hid h1
 have HR := Lib.hid h2
 have HE : Hid (Ext w w0) := Lib.hid h4
 clear h1 h2 h4 HB hA
 refine (limbsOf_any l HLl.out _).mono ?_
 rintro e w1 ⟨rfl, hb1⟩
 have HR := Lib.hid (ext_blk HR.out hb1)
 have HE := Lib.hid (HE.out.trans hb1)
 clear hb1
 go_wp2_with fail
 refine (numOf_any (limbsL l) ((limbsL_lt l).mono (by omega)) _).mono ?_
 rintro e w2 ⟨rfl, hb1⟩
 have HR := Lib.hid (ext_blk HR.out hb1)
 have HE := Lib.hid (HE.out.trans hb1)
 clear hb1
 rw [HV.out]
 go_wp2_with (refine wpList_store_blk rfl _ _ _ rfl (A + 1) ((nb (leN l)).map bval) rfl rfl _ _ HR.out (nb_len _) (nb_size _) (bval_one _) ?_; intro w5 hb5 hg5)
 exact bodyPost_ret (v := numP (leN l)) (result_row (by rfl) _ (A + 1) _ _ _ (by rfl) hb5 Tryd.underlying23 rfl (nb_size _)) rfl ⟨rfl, ext_grown HE.out hg5 (by omega)⟩
end Go.Proofs.YtckggbkoabmjiaaDoor
