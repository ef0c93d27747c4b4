/- Texts that belong together, one behind the other. -/
import Derived.Test.YthafgicndklgfaaGreatDoorQz07
namespace Go.Proofs.YthafgicndklgfaaGreatDoor
set_option linter.unusedVariables false
set_option linter.unusedSimpArgs false
open Go.RowKit
set_option maxHeartbeats 4000000 in
theorem Canon_num (l : List UInt8) (w : World) (hl : l.length = 32) :
  Calls Tryz.prog 82 #[.agg (l.map bval).toArray] w fun e w' => e = .returned (numP (leN l)) ∧ Below w.heap.size w w' := by
 have HV := jh (numP_cong (zek l hl))
 have HLl := jh hl
 have HIl : Hid ((Tryz.prog.info? 23).map (·.size) = some (l.map bval).length) := jh (by rw [List.length_map, hl]; exact Tryz.arr23)
 have HB := jh (boxes2 w (l.map bval) zero32 23 23)
 clear hl
 go_enter Tryz.func82, Tryz.ntmps82
 go_wp2_with (refine zae rfl _ _ rfl w.heap.size rfl _ _ _ _ HB.out.1 Tryz.underlying23 HIl.out ?_)
 change Calls _ _ _ ((w.alloc (.cells (l.map bval).toArray 23)).alloc (.cells zero32.toArray 23)) _
 generalize (w.alloc (.cells (l.map bval).toArray 23)).alloc (.cells zero32.toArray 23) = w0 at *
 obtain ⟨h1, h2, h4⟩ := HB.out
 obtain ⟨A, hA⟩ : ∃ A, A = w.heap.size := ⟨_, rfl⟩
 rw [← hA] at h1 h2 ⊢
 have hA2 : w.heap.size ≤ A := by omega
 have H1 := jh h1
 have HR := jh h2
 have HE : Hid (Ext w w0) := jh h4
 clear h1 h2 h4 HB hA
 refine (zdt l HLl.out _).mono ?_
 rintro e w1 ⟨rfl, hb1⟩
 have HR := jh (zaa HR.out hb1)
 have HE := jh (HE.out.trans hb1)
 clear hb1
 go_wp2_with fail
 refine (zdi (limbsL l) ((limbsL_lt l).mono (by omega)) _).mono ?_
 rintro e w2 ⟨rfl, hb1⟩
 have HR := jh (zaa HR.out hb1)
 have HE := jh (HE.out.trans hb1)
 clear hb1
 rw [HV.out]
 go_wp2_with (refine zab rfl _ _ _ rfl (A + 1) ((nb (leN l)).map bval) rfl rfl _ _ HR.out (nb_len _) (zdc _) (zaj _) ?_; intro w5 hb5 hg5)
 exact bodyPost_ret (v := numP (leN l)) (zay (by rfl) _ (A + 1) _ _ _ (by rfl) hb5 Tryz.underlying23 rfl (zdc _)) rfl ⟨rfl, zad HE.out hg5 (by omega)⟩
end Go.Proofs.YthafgicndklgfaaGreatDoor
