/- Lemmas. -/
import Derived.Test.YthafgicndklgfaaGreatDoorQy07
namespace Go.Proofs.YthafgicndklgfaaGreatDoor
set_option linter.unusedVariables false
set_option linter.unusedSimpArgs false
open Go.RowKit
set_option maxHeartbeats 4000000 in
theorem Canon_num (l : List UInt8) (w : World) (hl : l.length = 32) :
  Calls Tryz.prog 82 #[.agg (l.map bval).toArray] w fun e w' => e = .returned (numP (leN l)) ∧ Below w.heap.size w w' := by
 have HV := jh (numP_cong (zdz l hl))
 have HLl := jh hl
 have HIl : Hid ((Tryz.prog.info? 23).map (·.size) = some (l.map bval).length) := jh (by rw [q101, hl]; exact Tryz.arr23)
 have HB := jh (boxes2 w (l.map bval) zero32 23 23)
 clear hl
 go_enter Tryz.func82, Tryz.ntmps82
 go_wp2_with (refine slb w.heap.size HB.out.1 q100 HIl.out ?_)
 change Calls _ _ _ ((w.alloc (.cells (l.map bval).toArray 23)).alloc (.cells zero32.toArray 23)) _
 generalize (w.alloc (.cells (l.map bval).toArray 23)).alloc (.cells zero32.toArray 23) = w0 at *
 obtain ⟨h1, h2, h4⟩ := HB.out
 obtain ⟨A, hA⟩ : ∃ A, A = w.heap.size := ⟨_, rfl⟩
 rw [← hA] at h1 h2 ⊢
 have hA2 : w.heap.size ≤ A := by omega
 have H1 := jh h1
 have HR := jh h2
 have HE : Hid (Ext w w0) := jh h4
 clear h1 h2 h4 HB hA
 refine (zdl l HLl.out _).mono ?_
 rintro e w1 ⟨rfl, hb1⟩
 have HR := xb HR hb1
 have HE := xt HE hb1
 clear hb1
 go_wp2_with fail
 refine (zcz (limbsL l) ((limbsL_lt l).mono (by omega)) _).mono ?_
 rintro e w2 ⟨rfl, hb1⟩
 have HR := xb HR hb1
 have HE := xt HE hb1
 clear hb1
 rw [HV.out]
 go_wp2_with (refine ssb (A + 1) ((nb (leN l)).map bval) HR.out (nb_len _) (zcs _) (zaf _) ?_; intro w5 hb5 hg5)
 exact bodyPost_ret (v := numP (leN l)) (zap (by rfl) _ (A + 1) _ _ _ (by rfl) hb5 q100 rfl (zcs _)) rfl ⟨rfl, zab HE.out hg5 (by omega)⟩
