/- The walk of FieldRoots. Each theorem names its own conditions. -/
import Derived.Test.YtmiapjmdolecbaaDoorFldRoot
import Derived.Test.YtmiapjmdolecbaaDoorFldRootA
import Derived.Test.YtmiapjmdolecbaaDoorRefRootN
import Derived.Test.YtmiapjmdolecbaaDoorDetAll
import Derived.Test.YtmiapjmdolecbaaDoorDetLoad
namespace Go.Proofs.YtmiapjmdolecbaaDoor
open Go.RowKit
set_option linter.unusedVariables false
set_option linter.unusedSimpArgs false

section
variable {P : Program}
theorem byte_zero {o : Oper} {a : Act} {ty rt : TypeId} {x y : Operand} {w : World} (ho : o.op = .binOp .eql ty x y rt) (hx : a.eval x = .int .u8 0) (hy : a.eval y = .int .u8 0) :
    (execOp a.eval o).run P w = .ok (.value (.bool true)) w := by
  unfold execOp
  simp only [ho, hx, hy]
  rfl
end

set_option maxRecDepth 100000 in
set_option maxHeartbeats 16000000 in
theorem fieldRoots_any (l : List UInt8) (w : World) (hl : l.length = 32) (hG : Glob w) :
    Calls Tryd.prog 3 #[.agg (l.map bval).toArray] w fun e w' => e = .returned (.bool true) ∧ Below w.heap.size w w' := by
  have HGW := Lib.hid hG
  clear hG
  have HLl := Lib.hid hl
  have HIl : Hid ((Tryd.prog.info? 23).map (·.size) = some (l.map bval).length) := Lib.hid (by rw [List.length_map, hl]; exact Tryd.arr23)
  have HB := Lib.hid (Blk.made w (l.map bval) 23)
  have HA0 := Lib.hid (Ext.alloc w (.cells (l.map bval).toArray 23))
  clear hl
  go_enter Tryd.func3, Tryd.ntmps3
  go_wp2_with fail
  change Calls _ _ _ (w.alloc (.cells (l.map bval).toArray 23)) _
  generalize w.alloc (.cells (l.map bval).toArray 23) = w0 at *
  have h1 := HB.out
  have hE := HA0.out
  obtain ⟨A, hA⟩ : ∃ A, A = w.heap.size := ⟨_, rfl⟩
  rw [← hA] at h1 ⊢
  have hA2 : w.heap.size ≤ A := by omega
  have H1 := Lib.hid h1
  have HE : Hid (Ext w w0) := Lib.hid hE
  clear h1 hE HB hA HA0
  refine (alive_any _).mono ?_
  rintro e wa ⟨rfl, hb⟩
  have H1 := Lib.hid (ext_blk H1.out hb)
  have HE := Lib.hid (HE.out.trans hb)
  clear hb
  go_wp2_with (refine wpList_load_blk rfl _ _ rfl A rfl _ _ _ _ H1.out Tryd.underlying23 HIl.out ?_)
  obtain ⟨NA, hNA⟩ : ∃ n, n = rootN ((leN l : Nat) : Int) := ⟨_, rfl⟩
  obtain ⟨pa, hpa⟩ : ∃ n, n = rootB ((leN l : Nat) : Int) := ⟨_, rfl⟩
  have LNA : Hid (NA.length = 32) := Lib.hid (by rw [hNA]; exact rootN_length _)
  have LZA : Hid ((NA.map bval).length = zero32.length) := Lib.hid (by rw [List.length_map, LNA.out]; rfl)
  have LSA : Hid ((Tryd.prog.info? 23).map (·.size) = some (NA.map bval).length) := Lib.hid (by rw [List.length_map, LNA.out]; exact Tryd.arr23)
  obtain ⟨NC, hNC⟩ : ∃ n, n = rootN ((leN (nb (((leN l : Nat) : Int) * ((leN l : Nat) : Int))) : Nat) : Int) := ⟨_, rfl⟩
  obtain ⟨pc, hpc⟩ : ∃ n, n = rootB ((leN (nb (((leN l : Nat) : Int) * ((leN l : Nat) : Int))) : Nat) : Int) := ⟨_, rfl⟩
  have LNC : Hid (NC.length = 32) := Lib.hid (by rw [hNC]; exact rootN_length _)
  have LZC : Hid ((NC.map bval).length = zero32.length) := Lib.hid (by rw [List.length_map, LNC.out]; rfl)
  have LSC : Hid ((Tryd.prog.info? 23).map (·.size) = some (NC.map bval).length) := Lib.hid (by rw [List.length_map, LNC.out]; exact Tryd.arr23)
  have HRA : Hid (∀ w, Calls Tryd.prog 5 #[.agg (l.map bval).toArray] w fun e w' => e = .returned (.tuple #[.agg (NA.map bval).toArray, .bool pa]) ∧ Below w.heap.size w w') := Lib.hid (fun w => by rw [hNA, hpa]; exact Root_num l w HLl.out)
  have HRR : Hid (∀ w, Glob w → Calls Tryd.prog 6 #[.agg (l.map bval).toArray] w fun e w' => e = .returned (.tuple #[.agg (NA.map bval).toArray, .bool pa]) ∧ Below w.heap.size w w') := Lib.hid (fun w hg => by rw [hNA, hpa]; exact rRoot_num l w HLl.out hg)
  have HRC : Hid (∀ w, Calls Tryd.prog 5 #[.agg ((nb (((leN l : Nat) : Int) * ((leN l : Nat) : Int))).map bval).toArray] w fun e w' => e = .returned (.tuple #[.agg (NC.map bval).toArray, .bool pc]) ∧ Below w.heap.size w w') := Lib.hid (fun w => by rw [hNC, hpc]; exact Root_num (nb (((leN l : Nat) : Int) * ((leN l : Nat) : Int))) w (nb_length _))
  have HPC : Hid (pc = true) := Lib.hid (by rw [hpc]; exact roots_back _)
  have HBO : Hid (NC = nb ((leN l : Nat) : Int) ∨ NC = nb (((leN zer : Nat) : Int) - ((leN l : Nat) : Int))) := Lib.hid (by rw [hNC]; exact roots_both _)
  have HSQ : Hid (pa = true → nb (((leN NA : Nat) : Int) * ((leN NA : Nat) : Int)) = nb ((leN l : Nat) : Int)) := Lib.hid (fun h => by rw [hNA]; exact roots_square (hpa.symm.trans h))
  have HEV : Hid (pa = true → (NA.getD 0 0).toNat % 2 = 0) := Lib.hid (fun h => by rw [hNA]; exact roots_even (hpa.symm.trans h))
  clear hNA hNC hpa hpc
  refine (HRA.out _).mono ?_
  rintro e wc1 ⟨rfl, hb⟩
  have H1 := Lib.hid (ext_blk H1.out hb)
  have HE := Lib.hid (HE.out.trans hb)
  clear hb
  have bH1 := H1.out.lt
  have HD := Lib.hid (Blk.made wc1 zero32 23)
  have HX := Lib.hid (Ext.alloc wc1 (.cells zero32.toArray 23))
  have KH1 := Lib.hid (ext_blk H1.out HX.out)
  have cH1 := Lib.hid bH1
  clear bH1
  go_wp2_with (first | (refine wpList_store_blk rfl _ _ _ rfl wc1.heap.size (NA.map bval) rfl rfl _ _ HD.out LZA.out LSA.out (bval_one _) ?_; intro w5 hb5 hg5; have nH1 := KH1.out.grown hg5 (by have := cH1.out; simp; omega)) | (refine wpList_load_w (by rfl) _ _ rfl A rfl _ _ _ _ nH1 Tryd.underlying23 HIl.out ?_))
  obtain ⟨GA, hG⟩ : ∃ q, q = wc1.heap.size := ⟨_, rfl⟩
  have dH1 := cH1.out
  rw [← hG] at hb5 hg5 ⊢
  have lH1GA : A < GA := by omega
  have H1 := Lib.hid (KH1.out.grown hg5 (by simp; omega))
  have hwGA : w.heap.size ≤ GA := by have := HE.out.size; omega
  have HE := Lib.hid (ext_grown (HE.out.trans HX.out) hg5 hwGA)
  have HNA := Lib.hid hb5
  clear hb5 hg5 hG HD HX KH1 cH1 dH1 nH1
  refine (HRR.out _ (HGW.out.ext HE.out)).mono ?_
  rintro e wc2 ⟨rfl, hb⟩
  have H1 := Lib.hid (ext_blk H1.out hb)
  have HNA := Lib.hid (ext_blk HNA.out hb)
  have HE := Lib.hid (HE.out.trans hb)
  clear hb
  have bH1 := H1.out.lt
  have bHNA := HNA.out.lt
  have HD := Lib.hid (Blk.made wc2 zero32 23)
  have HX := Lib.hid (Ext.alloc wc2 (.cells zero32.toArray 23))
  have KH1 := Lib.hid (ext_blk H1.out HX.out)
  have KHNA := Lib.hid (ext_blk HNA.out HX.out)
  have cH1 := Lib.hid bH1
  have cHNA := Lib.hid bHNA
  clear bH1 bHNA
  go_wp2_with (first | (refine wpList_store_blk rfl _ _ _ rfl wc2.heap.size (NA.map bval) rfl rfl _ _ HD.out LZA.out LSA.out (bval_one _) ?_; intro w5 hb5 hg5; have nH1 := KH1.out.grown hg5 (by have := cH1.out; simp; omega)) | (refine wpList_load_w (by rfl) _ _ rfl A rfl _ _ _ _ nH1 Tryd.underlying23 HIl.out ?_))
  obtain ⟨GB, hG⟩ : ∃ q, q = wc2.heap.size := ⟨_, rfl⟩
  have dH1 := cH1.out
  have dHNA := cHNA.out
  rw [← hG] at hb5 hg5 ⊢
  have lH1GB : A < GB := by omega
  have H1 := Lib.hid (KH1.out.grown hg5 (by simp; omega))
  have lHNAGB : GA < GB := by omega
  have HNA := Lib.hid (KHNA.out.grown hg5 (by simp; omega))
  have hwGB : w.heap.size ≤ GB := by have := HE.out.size; omega
  have HE := Lib.hid (ext_grown (HE.out.trans HX.out) hg5 hwGB)
  have HNB := Lib.hid hb5
  clear hb5 hg5 hG HD HX KH1 cH1 dH1 KHNA cHNA dHNA nH1
  refine (Mul_num l l _ HLl.out HLl.out).mono ?_
  rintro e wc3 ⟨rfl, hb⟩
  have H1 := Lib.hid (ext_blk H1.out hb)
  have HNA := Lib.hid (ext_blk HNA.out hb)
  have HNB := Lib.hid (ext_blk HNB.out hb)
  have HE := Lib.hid (HE.out.trans hb)
  clear hb
  go_wp2_with fail
  refine (HRC.out _).mono ?_
  rintro e wc4 ⟨rfl, hb⟩
  have H1 := Lib.hid (ext_blk H1.out hb)
  have HNA := Lib.hid (ext_blk HNA.out hb)
  have HNB := Lib.hid (ext_blk HNB.out hb)
  have HE := Lib.hid (HE.out.trans hb)
  clear hb
  have bH1 := H1.out.lt
  have bHNA := HNA.out.lt
  have bHNB := HNB.out.lt
  have HD := Lib.hid (Blk.made wc4 zero32 23)
  have HX := Lib.hid (Ext.alloc wc4 (.cells zero32.toArray 23))
  have KH1 := Lib.hid (ext_blk H1.out HX.out)
  have KHNA := Lib.hid (ext_blk HNA.out HX.out)
  have KHNB := Lib.hid (ext_blk HNB.out HX.out)
  have cH1 := Lib.hid bH1
  have cHNA := Lib.hid bHNA
  have cHNB := Lib.hid bHNB
  clear bH1 bHNA bHNB
  go_wp2_with (first | (refine wpList_store_blk rfl _ _ _ rfl wc4.heap.size (NC.map bval) rfl rfl _ _ HD.out LZC.out LSC.out (bval_one _) ?_; intro w5 hb5 hg5; have nH1 := KH1.out.grown hg5 (by have := cH1.out; simp; omega)) | (refine wpList_load_w (by rfl) _ _ rfl A rfl _ _ _ _ nH1 Tryd.underlying23 HIl.out ?_))
  obtain ⟨GC, hG⟩ : ∃ q, q = wc4.heap.size := ⟨_, rfl⟩
  have dH1 := cH1.out
  have dHNA := cHNA.out
  have dHNB := cHNB.out
  rw [← hG] at hb5 hg5 ⊢
  have lH1GC : A < GC := by omega
  have H1 := Lib.hid (KH1.out.grown hg5 (by simp; omega))
  have lHNAGC : GA < GC := by omega
  have HNA := Lib.hid (KHNA.out.grown hg5 (by simp; omega))
  have lHNBGC : GB < GC := by omega
  have HNB := Lib.hid (KHNB.out.grown hg5 (by simp; omega))
  have hwGC : w.heap.size ≤ GC := by have := HE.out.size; omega
  have HE := Lib.hid (ext_grown (HE.out.trans HX.out) hg5 hwGC)
  have HNC := Lib.hid hb5
  clear hb5 hg5 hG HD HX KH1 cH1 dH1 KHNA cHNA dHNA KHNB cHNB dHNB nH1
  refine (Canon_num l _ HLl.out).mono ?_
  rintro e wc5 ⟨rfl, hb⟩
  have H1 := Lib.hid (ext_blk H1.out hb)
  have HNA := Lib.hid (ext_blk HNA.out hb)
  have HNB := Lib.hid (ext_blk HNB.out hb)
  have HNC := Lib.hid (ext_blk HNC.out hb)
  have HE := Lib.hid (HE.out.trans hb)
  clear hb
  have bH1 := H1.out.lt
  have bHNA := HNA.out.lt
  have bHNB := HNB.out.lt
  have bHNC := HNC.out.lt
  have HD := Lib.hid (Blk.made wc5 zero32 23)
  have HX := Lib.hid (Ext.alloc wc5 (.cells zero32.toArray 23))
  have KH1 := Lib.hid (ext_blk H1.out HX.out)
  have KHNA := Lib.hid (ext_blk HNA.out HX.out)
  have KHNB := Lib.hid (ext_blk HNB.out HX.out)
  have KHNC := Lib.hid (ext_blk HNC.out HX.out)
  have cH1 := Lib.hid bH1
  have cHNA := Lib.hid bHNA
  have cHNB := Lib.hid bHNB
  have cHNC := Lib.hid bHNC
  clear bH1 bHNA bHNB bHNC
  go_wp2_with (first | (refine wpList_store_blk rfl _ _ _ rfl wc5.heap.size ((nb ((leN l : Nat) : Int)).map bval) rfl rfl _ _ HD.out (nb_len _) (nb_size _) (bval_one _) ?_; intro w5 hb5 hg5; have nH1 := KH1.out.grown hg5 (by have := cH1.out; simp; omega)) | (refine wpList_load_w (by rfl) _ _ rfl A rfl _ _ _ _ nH1 Tryd.underlying23 HIl.out ?_))
  obtain ⟨GD, hG⟩ : ∃ q, q = wc5.heap.size := ⟨_, rfl⟩
  have dH1 := cH1.out
  have dHNA := cHNA.out
  have dHNB := cHNB.out
  have dHNC := cHNC.out
  rw [← hG] at hb5 hg5 ⊢
  have lH1GD : A < GD := by omega
  have H1 := Lib.hid (KH1.out.grown hg5 (by simp; omega))
  have lHNAGD : GA < GD := by omega
  have HNA := Lib.hid (KHNA.out.grown hg5 (by simp; omega))
  have lHNBGD : GB < GD := by omega
  have HNB := Lib.hid (KHNB.out.grown hg5 (by simp; omega))
  have lHNCGD : GC < GD := by omega
  have HNC := Lib.hid (KHNC.out.grown hg5 (by simp; omega))
  have hwGD : w.heap.size ≤ GD := by have := HE.out.size; omega
  have HE := Lib.hid (ext_grown (HE.out.trans HX.out) hg5 hwGD)
  have HCA := Lib.hid hb5
  clear hb5 hg5 hG HD HX KH1 cH1 dH1 KHNA cHNA dHNA KHNB cHNB dHNB KHNC cHNC dHNC nH1
  refine (Sub_num zer l _ zer_length HLl.out).mono ?_
  rintro e wc6 ⟨rfl, hb⟩
  have H1 := Lib.hid (ext_blk H1.out hb)
  have HNA := Lib.hid (ext_blk HNA.out hb)
  have HNB := Lib.hid (ext_blk HNB.out hb)
  have HNC := Lib.hid (ext_blk HNC.out hb)
  have HCA := Lib.hid (ext_blk HCA.out hb)
  have HE := Lib.hid (HE.out.trans hb)
  clear hb
  have bH1 := H1.out.lt
  have bHNA := HNA.out.lt
  have bHNB := HNB.out.lt
  have bHNC := HNC.out.lt
  have bHCA := HCA.out.lt
  have HD := Lib.hid (Blk.made wc6 zero32 23)
  have HX := Lib.hid (Ext.alloc wc6 (.cells zero32.toArray 23))
  have KH1 := Lib.hid (ext_blk H1.out HX.out)
  have KHNA := Lib.hid (ext_blk HNA.out HX.out)
  have KHNB := Lib.hid (ext_blk HNB.out HX.out)
  have KHNC := Lib.hid (ext_blk HNC.out HX.out)
  have KHCA := Lib.hid (ext_blk HCA.out HX.out)
  have cH1 := Lib.hid bH1
  have cHNA := Lib.hid bHNA
  have cHNB := Lib.hid bHNB
  have cHNC := Lib.hid bHNC
  have cHCA := Lib.hid bHCA
  clear bH1 bHNA bHNB bHNC bHCA
  go_wp2_with (first | (refine wpList_store_blk rfl _ _ _ rfl wc6.heap.size ((nb (((leN zer : Nat) : Int) - ((leN l : Nat) : Int))).map bval) rfl rfl _ _ HD.out (nb_len _) (nb_size _) (bval_one _) ?_; intro w5 hb5 hg5))
  obtain ⟨GE, hG⟩ : ∃ q, q = wc6.heap.size := ⟨_, rfl⟩
  have dH1 := cH1.out
  have dHNA := cHNA.out
  have dHNB := cHNB.out
  have dHNC := cHNC.out
  have dHCA := cHCA.out
  rw [← hG] at hb5 hg5 ⊢
  have lH1GE : A < GE := by omega
  have H1 := Lib.hid (KH1.out.grown hg5 (by simp; omega))
  have lHNAGE : GA < GE := by omega
  have HNA := Lib.hid (KHNA.out.grown hg5 (by simp; omega))
  have lHNBGE : GB < GE := by omega
  have HNB := Lib.hid (KHNB.out.grown hg5 (by simp; omega))
  have lHNCGE : GC < GE := by omega
  have HNC := Lib.hid (KHNC.out.grown hg5 (by simp; omega))
  have lHCAGE : GD < GE := by omega
  have HCA := Lib.hid (KHCA.out.grown hg5 (by simp; omega))
  have hwGE : w.heap.size ≤ GE := by have := HE.out.size; omega
  have HE := Lib.hid (ext_grown (HE.out.trans HX.out) hg5 hwGE)
  have HSB := Lib.hid hb5
  clear hb5 hg5 hG HD HX KH1 cH1 dH1 KHNA cHNA dHNA KHNB cHNB dHNB KHNC cHNC dHNC KHCA cHCA dHCA 
  have hpc := HPC.out
  subst hpc
  by_cases hT : NC = nb ((leN l : Nat) : Int)
  · have HT := Lib.hid hT
    clear hT
    cases pa
    · skip
      refine wp_region_all (by kernel_rfl) (by kernel_rfl) ?_
      refine det_move _ (.bool true) (by rfl) rfl rfl ?_
      simp only [Act.put, List.setIfInBounds_toArray, List.set_cons_zero, List.set_cons_succ]
      refine det_move _ (.bool true) (by rfl) rfl rfl ?_
      simp only [Act.put, List.setIfInBounds_toArray, List.set_cons_zero, List.set_cons_succ]
      refine det_load _ _ GA (NA.map bval) _ (by rfl) rfl rfl (fun w hw => ext_range HNA.out hw) Tryd.underlying23 rfl LSA.out ?_
      simp only [Act.put, List.setIfInBounds_toArray, List.set_cons_zero, List.set_cons_succ]
      refine det_load _ _ GB (NA.map bval) _ (by rfl) rfl rfl (fun w hw => ext_range HNB.out hw) Tryd.underlying23 rfl LSA.out ?_
      simp only [Act.put, List.setIfInBounds_toArray, List.set_cons_zero, List.set_cons_succ]
      refine det_eql _ _ _ _ _ _ 32 _ NA NA true (by rfl) rfl (Or.inl ⟨rfl, decide_eq_true rfl⟩) Tryd.underlying23 Tryd.underlying5 num_info num_cells num_guard rfl rfl LNA.out LNA.out ?_
      simp only [Act.put, List.setIfInBounds_toArray, List.set_cons_zero, List.set_cons_succ]
      refine det_pick _ _ _ true (.bool true) (by rfl) rfl rfl rfl ?_
      simp only [Act.put, List.setIfInBounds_toArray, List.set_cons_zero, List.set_cons_succ]
      refine det_move _ (.bool true) (by rfl) rfl rfl ?_
      simp only [Act.put, List.setIfInBounds_toArray, List.set_cons_zero, List.set_cons_succ]
      refine det_move _ (.bool false) (by rfl) rfl rfl ?_
      simp only [Act.put, List.setIfInBounds_toArray, List.set_cons_zero, List.set_cons_succ]
      refine det_move _ (.bool false) (by rfl) rfl rfl ?_
      simp only [Act.put, List.setIfInBounds_toArray, List.set_cons_zero, List.set_cons_succ]
      refine det_beq _ _ _ _ false false true (by rfl) rfl rfl rfl Tryd.underlying4 rfl ?_
      simp only [Act.put, List.setIfInBounds_toArray, List.set_cons_zero, List.set_cons_succ]
      refine det_pick _ _ _ true (.bool true) (by rfl) rfl rfl rfl ?_
      simp only [Act.put, List.setIfInBounds_toArray, List.set_cons_zero, List.set_cons_succ]
      refine det_move _ (.bool true) (by rfl) rfl rfl ?_
      simp only [Act.put, List.setIfInBounds_toArray, List.set_cons_zero, List.set_cons_succ]
      refine det_move _ (.bool false) (by rfl) rfl rfl ?_
      simp only [Act.put, List.setIfInBounds_toArray, List.set_cons_zero, List.set_cons_succ]
      refine det_not _ _ false (by rfl) rfl rfl ?_
      simp only [Act.put, List.setIfInBounds_toArray, List.set_cons_zero, List.set_cons_succ, Bool.not_true, Bool.not_false]
      refine det_move _ (.bool true) (by rfl) rfl rfl ?_
      simp only [Act.put, List.setIfInBounds_toArray, List.set_cons_zero, List.set_cons_succ]
      refine det_skip (by rfl) ?_
      simp only [Act.put, List.setIfInBounds_toArray, List.set_cons_zero, List.set_cons_succ]
      refine det_skip (by rfl) ?_
      simp only [Act.put, List.setIfInBounds_toArray, List.set_cons_zero, List.set_cons_succ]
      refine det_skip (by rfl) ?_
      simp only [Act.put, List.setIfInBounds_toArray, List.set_cons_zero, List.set_cons_succ]
      refine det_skip (by rfl) ?_
      simp only [Act.put, List.setIfInBounds_toArray, List.set_cons_zero, List.set_cons_succ]
      refine det_skip (by rfl) ?_
      simp only [Act.put, List.setIfInBounds_toArray, List.set_cons_zero, List.set_cons_succ]
      refine det_skip (by rfl) ?_
      simp only [Act.put, List.setIfInBounds_toArray, List.set_cons_zero, List.set_cons_succ]
      refine det_skip (by rfl) ?_
      simp only [Act.put, List.setIfInBounds_toArray, List.set_cons_zero, List.set_cons_succ]
      refine det_skip (by rfl) ?_
      simp only [Act.put, List.setIfInBounds_toArray, List.set_cons_zero, List.set_cons_succ]
      refine det_skip (by rfl) ?_
      simp only [Act.put, List.setIfInBounds_toArray, List.set_cons_zero, List.set_cons_succ]
      refine det_skip (by rfl) ?_
      simp only [Act.put, List.setIfInBounds_toArray, List.set_cons_zero, List.set_cons_succ]
      refine det_skip (by rfl) ?_
      simp only [Act.put, List.setIfInBounds_toArray, List.set_cons_zero, List.set_cons_succ]
      refine det_pick _ _ _ true (.bool true) (by rfl) rfl rfl rfl ?_
      simp only [Act.put, List.setIfInBounds_toArray, List.set_cons_zero, List.set_cons_succ]
      refine det_pick _ _ _ true (.bool true) (by rfl) rfl rfl rfl ?_
      simp only [Act.put, List.setIfInBounds_toArray, List.set_cons_zero, List.set_cons_succ]
      refine det_move _ (.bool true) (by rfl) rfl rfl ?_
      simp only [Act.put, List.setIfInBounds_toArray, List.set_cons_zero, List.set_cons_succ]
      refine det_move _ (.bool true) (by rfl) rfl rfl ?_
      simp only [Act.put, List.setIfInBounds_toArray, List.set_cons_zero, List.set_cons_succ]
      refine det_pick _ _ _ true (.bool true) (by rfl) rfl rfl rfl ?_
      simp only [Act.put, List.setIfInBounds_toArray, List.set_cons_zero, List.set_cons_succ]
      refine det_move _ (.bool true) (by rfl) rfl rfl ?_
      simp only [Act.put, List.setIfInBounds_toArray, List.set_cons_zero, List.set_cons_succ]
      refine det_load _ _ GC (NC.map bval) _ (by rfl) rfl rfl (fun w hw => ext_range HNC.out hw) Tryd.underlying23 rfl LSC.out ?_
      simp only [Act.put, List.setIfInBounds_toArray, List.set_cons_zero, List.set_cons_succ]
      refine det_load _ _ GD ((nb ((leN l : Nat) : Int)).map bval) _ (by rfl) rfl rfl (fun w hw => ext_range HCA.out hw) Tryd.underlying23 rfl (nb_size _) ?_
      simp only [Act.put, List.setIfInBounds_toArray, List.set_cons_zero, List.set_cons_succ]
      refine det_eql _ _ _ _ _ _ 32 _ NC (nb ((leN l : Nat) : Int)) true (by rfl) rfl (Or.inl ⟨rfl, decide_eq_true HT.out⟩) Tryd.underlying23 Tryd.underlying5 num_info num_cells num_guard rfl rfl LNC.out (nb_length _) ?_
      simp only [Act.put, List.setIfInBounds_toArray, List.set_cons_zero, List.set_cons_succ]
      refine det_move _ (.bool true) (by rfl) rfl rfl ?_
      simp only [Act.put, List.setIfInBounds_toArray, List.set_cons_zero, List.set_cons_succ]
      refine det_skip (by rfl) ?_
      simp only [Act.put, List.setIfInBounds_toArray, List.set_cons_zero, List.set_cons_succ]
      refine det_skip (by rfl) ?_
      simp only [Act.put, List.setIfInBounds_toArray, List.set_cons_zero, List.set_cons_succ]
      refine det_skip (by rfl) ?_
      simp only [Act.put, List.setIfInBounds_toArray, List.set_cons_zero, List.set_cons_succ]
      refine det_pick _ _ _ true (.bool true) (by rfl) rfl rfl rfl ?_
      simp only [Act.put, List.setIfInBounds_toArray, List.set_cons_zero, List.set_cons_succ]
      refine det_pick _ _ _ true (.bool true) (by rfl) rfl rfl rfl ?_
      simp only [Act.put, List.setIfInBounds_toArray, List.set_cons_zero, List.set_cons_succ]
      refine det_assign _ (.bool true) (by rfl) rfl rfl ?_
      simp only [Act.put, List.setIfInBounds_toArray, List.set_cons_zero, List.set_cons_succ]
      refine det_nil (fun w9 hw9 => ?_)
      go_wp2_with fail
      go_ret
      exact ⟨rfl, HE.out.trans hw9⟩
    · skip
      refine wp_region_all (by kernel_rfl) (by kernel_rfl) ?_
      refine det_move _ (.bool true) (by rfl) rfl rfl ?_
      simp only [Act.put, List.setIfInBounds_toArray, List.set_cons_zero, List.set_cons_succ]
      refine det_move _ (.bool true) (by rfl) rfl rfl ?_
      simp only [Act.put, List.setIfInBounds_toArray, List.set_cons_zero, List.set_cons_succ]
      refine det_load _ _ GA (NA.map bval) _ (by rfl) rfl rfl (fun w hw => ext_range HNA.out hw) Tryd.underlying23 rfl LSA.out ?_
      simp only [Act.put, List.setIfInBounds_toArray, List.set_cons_zero, List.set_cons_succ]
      refine det_load _ _ GB (NA.map bval) _ (by rfl) rfl rfl (fun w hw => ext_range HNB.out hw) Tryd.underlying23 rfl LSA.out ?_
      simp only [Act.put, List.setIfInBounds_toArray, List.set_cons_zero, List.set_cons_succ]
      refine det_eql _ _ _ _ _ _ 32 _ NA NA true (by rfl) rfl (Or.inl ⟨rfl, decide_eq_true rfl⟩) Tryd.underlying23 Tryd.underlying5 num_info num_cells num_guard rfl rfl LNA.out LNA.out ?_
      simp only [Act.put, List.setIfInBounds_toArray, List.set_cons_zero, List.set_cons_succ]
      refine det_pick _ _ _ true (.bool true) (by rfl) rfl rfl rfl ?_
      simp only [Act.put, List.setIfInBounds_toArray, List.set_cons_zero, List.set_cons_succ]
      refine det_move _ (.bool true) (by rfl) rfl rfl ?_
      simp only [Act.put, List.setIfInBounds_toArray, List.set_cons_zero, List.set_cons_succ]
      refine det_move _ (.bool true) (by rfl) rfl rfl ?_
      simp only [Act.put, List.setIfInBounds_toArray, List.set_cons_zero, List.set_cons_succ]
      refine det_move _ (.bool true) (by rfl) rfl rfl ?_
      simp only [Act.put, List.setIfInBounds_toArray, List.set_cons_zero, List.set_cons_succ]
      refine det_beq _ _ _ _ true true true (by rfl) rfl rfl rfl Tryd.underlying4 rfl ?_
      simp only [Act.put, List.setIfInBounds_toArray, List.set_cons_zero, List.set_cons_succ]
      refine det_pick _ _ _ true (.bool true) (by rfl) rfl rfl rfl ?_
      simp only [Act.put, List.setIfInBounds_toArray, List.set_cons_zero, List.set_cons_succ]
      refine det_move _ (.bool true) (by rfl) rfl rfl ?_
      simp only [Act.put, List.setIfInBounds_toArray, List.set_cons_zero, List.set_cons_succ]
      refine det_move _ (.bool true) (by rfl) rfl rfl ?_
      simp only [Act.put, List.setIfInBounds_toArray, List.set_cons_zero, List.set_cons_succ]
      refine det_not _ _ true (by rfl) rfl rfl ?_
      simp only [Act.put, List.setIfInBounds_toArray, List.set_cons_zero, List.set_cons_succ, Bool.not_true, Bool.not_false]
      refine det_move _ (.bool false) (by rfl) rfl rfl ?_
      simp only [Act.put, List.setIfInBounds_toArray, List.set_cons_zero, List.set_cons_succ]
      refine det_load _ _ GA (NA.map bval) _ (by rfl) rfl rfl (fun w hw => ext_range HNA.out hw) Tryd.underlying23 rfl LSA.out ?_
      simp only [Act.put, List.setIfInBounds_toArray, List.set_cons_zero, List.set_cons_succ]
      refine det_load _ _ GA (NA.map bval) _ (by rfl) rfl rfl (fun w hw => ext_range HNA.out hw) Tryd.underlying23 rfl LSA.out ?_
      simp only [Act.put, List.setIfInBounds_toArray, List.set_cons_zero, List.set_cons_succ]
      refine det_call _ _ _ [.agg (NA.map bval).toArray, .agg (NA.map bval).toArray] (.agg ((nb (((leN NA : Nat) : Int) * ((leN NA : Nat) : Int))).map bval).toArray) (by rfl) rfl Tryd.call7 rfl (fun w hw => Mul_num NA NA w LNA.out LNA.out) ?_
      simp only [Act.put, List.setIfInBounds_toArray, List.set_cons_zero, List.set_cons_succ]
      refine det_load _ _ GD ((nb ((leN l : Nat) : Int)).map bval) _ (by rfl) rfl rfl (fun w hw => ext_range HCA.out hw) Tryd.underlying23 rfl (nb_size _) ?_
      simp only [Act.put, List.setIfInBounds_toArray, List.set_cons_zero, List.set_cons_succ]
      refine det_eql _ _ _ _ _ _ 32 _ (nb (((leN NA : Nat) : Int) * ((leN NA : Nat) : Int))) (nb ((leN l : Nat) : Int)) true (by rfl) rfl (Or.inl ⟨rfl, decide_eq_true (HSQ.out rfl)⟩) Tryd.underlying23 Tryd.underlying5 num_info num_cells num_guard rfl rfl (nb_length _) (nb_length _) ?_
      simp only [Act.put, List.setIfInBounds_toArray, List.set_cons_zero, List.set_cons_succ]
      refine det_move _ (.bool true) (by rfl) rfl rfl ?_
      simp only [Act.put, List.setIfInBounds_toArray, List.set_cons_zero, List.set_cons_succ]
      refine det_index _ _ _ _ GA 32 0 (by rfl) rfl rfl rfl Tryd.underlying23 (by omega) (Tryd.sizeOf5) ?_
      simp only [Act.put, List.setIfInBounds_toArray, List.set_cons_zero, List.set_cons_succ]
      refine det_cell _ _ GA 0 (.int .u8 (((NA.getD 0 0) : UInt8).toNat : Int)) (by rfl) rfl rfl (fun w hw => ((ext_blk HNA.out hw).cell 0).trans (bval_get (by rw [LNA.out]; omega))) (Tryd.isAgg5) ?_
      simp only [Act.put, List.setIfInBounds_toArray, List.set_cons_zero, List.set_cons_succ]
      refine det_and _ _ _ _ _ _ _ (0 : Int) (by rfl) rfl rfl rfl (by rw [andU1, HEV.out rfl]; rfl) ?_
      simp only [Act.put, List.setIfInBounds_toArray, List.set_cons_zero, List.set_cons_succ]
      refine det_val (.bool true) (by rfl) (fun w hw => byte_zero rfl rfl rfl) ?_
      simp only [Act.put, List.setIfInBounds_toArray, List.set_cons_zero, List.set_cons_succ]
      refine det_pick _ _ _ true (.bool true) (by rfl) rfl rfl rfl ?_
      simp only [Act.put, List.setIfInBounds_toArray, List.set_cons_zero, List.set_cons_succ]
      refine det_pick _ _ _ false (.bool true) (by rfl) rfl rfl rfl ?_
      simp only [Act.put, List.setIfInBounds_toArray, List.set_cons_zero, List.set_cons_succ]
      refine det_pick _ _ _ true (.bool true) (by rfl) rfl rfl rfl ?_
      simp only [Act.put, List.setIfInBounds_toArray, List.set_cons_zero, List.set_cons_succ]
      refine det_move _ (.bool true) (by rfl) rfl rfl ?_
      simp only [Act.put, List.setIfInBounds_toArray, List.set_cons_zero, List.set_cons_succ]
      refine det_move _ (.bool true) (by rfl) rfl rfl ?_
      simp only [Act.put, List.setIfInBounds_toArray, List.set_cons_zero, List.set_cons_succ]
      refine det_pick _ _ _ true (.bool true) (by rfl) rfl rfl rfl ?_
      simp only [Act.put, List.setIfInBounds_toArray, List.set_cons_zero, List.set_cons_succ]
      refine det_move _ (.bool true) (by rfl) rfl rfl ?_
      simp only [Act.put, List.setIfInBounds_toArray, List.set_cons_zero, List.set_cons_succ]
      refine det_load _ _ GC (NC.map bval) _ (by rfl) rfl rfl (fun w hw => ext_range HNC.out hw) Tryd.underlying23 rfl LSC.out ?_
      simp only [Act.put, List.setIfInBounds_toArray, List.set_cons_zero, List.set_cons_succ]
      refine det_load _ _ GD ((nb ((leN l : Nat) : Int)).map bval) _ (by rfl) rfl rfl (fun w hw => ext_range HCA.out hw) Tryd.underlying23 rfl (nb_size _) ?_
      simp only [Act.put, List.setIfInBounds_toArray, List.set_cons_zero, List.set_cons_succ]
      refine det_eql _ _ _ _ _ _ 32 _ NC (nb ((leN l : Nat) : Int)) true (by rfl) rfl (Or.inl ⟨rfl, decide_eq_true HT.out⟩) Tryd.underlying23 Tryd.underlying5 num_info num_cells num_guard rfl rfl LNC.out (nb_length _) ?_
      simp only [Act.put, List.setIfInBounds_toArray, List.set_cons_zero, List.set_cons_succ]
      refine det_move _ (.bool true) (by rfl) rfl rfl ?_
      simp only [Act.put, List.setIfInBounds_toArray, List.set_cons_zero, List.set_cons_succ]
      refine det_skip (by rfl) ?_
      simp only [Act.put, List.setIfInBounds_toArray, List.set_cons_zero, List.set_cons_succ]
      refine det_skip (by rfl) ?_
      simp only [Act.put, List.setIfInBounds_toArray, List.set_cons_zero, List.set_cons_succ]
      refine det_skip (by rfl) ?_
      simp only [Act.put, List.setIfInBounds_toArray, List.set_cons_zero, List.set_cons_succ]
      refine det_pick _ _ _ true (.bool true) (by rfl) rfl rfl rfl ?_
      simp only [Act.put, List.setIfInBounds_toArray, List.set_cons_zero, List.set_cons_succ]
      refine det_pick _ _ _ true (.bool true) (by rfl) rfl rfl rfl ?_
      simp only [Act.put, List.setIfInBounds_toArray, List.set_cons_zero, List.set_cons_succ]
      refine det_assign _ (.bool true) (by rfl) rfl rfl ?_
      simp only [Act.put, List.setIfInBounds_toArray, List.set_cons_zero, List.set_cons_succ]
      refine det_nil (fun w9 hw9 => ?_)
      go_wp2_with fail
      go_ret
      exact ⟨rfl, HE.out.trans hw9⟩
  · have HT := Lib.hid hT
    clear hT
    cases pa
    · skip
      refine wp_region_all (by kernel_rfl) (by kernel_rfl) ?_
      refine det_move _ (.bool true) (by rfl) rfl rfl ?_
      simp only [Act.put, List.setIfInBounds_toArray, List.set_cons_zero, List.set_cons_succ]
      refine det_move _ (.bool true) (by rfl) rfl rfl ?_
      simp only [Act.put, List.setIfInBounds_toArray, List.set_cons_zero, List.set_cons_succ]
      refine det_load _ _ GA (NA.map bval) _ (by rfl) rfl rfl (fun w hw => ext_range HNA.out hw) Tryd.underlying23 rfl LSA.out ?_
      simp only [Act.put, List.setIfInBounds_toArray, List.set_cons_zero, List.set_cons_succ]
      refine det_load _ _ GB (NA.map bval) _ (by rfl) rfl rfl (fun w hw => ext_range HNB.out hw) Tryd.underlying23 rfl LSA.out ?_
      simp only [Act.put, List.setIfInBounds_toArray, List.set_cons_zero, List.set_cons_succ]
      refine det_eql _ _ _ _ _ _ 32 _ NA NA true (by rfl) rfl (Or.inl ⟨rfl, decide_eq_true rfl⟩) Tryd.underlying23 Tryd.underlying5 num_info num_cells num_guard rfl rfl LNA.out LNA.out ?_
      simp only [Act.put, List.setIfInBounds_toArray, List.set_cons_zero, List.set_cons_succ]
      refine det_pick _ _ _ true (.bool true) (by rfl) rfl rfl rfl ?_
      simp only [Act.put, List.setIfInBounds_toArray, List.set_cons_zero, List.set_cons_succ]
      refine det_move _ (.bool true) (by rfl) rfl rfl ?_
      simp only [Act.put, List.setIfInBounds_toArray, List.set_cons_zero, List.set_cons_succ]
      refine det_move _ (.bool false) (by rfl) rfl rfl ?_
      simp only [Act.put, List.setIfInBounds_toArray, List.set_cons_zero, List.set_cons_succ]
      refine det_move _ (.bool false) (by rfl) rfl rfl ?_
      simp only [Act.put, List.setIfInBounds_toArray, List.set_cons_zero, List.set_cons_succ]
      refine det_beq _ _ _ _ false false true (by rfl) rfl rfl rfl Tryd.underlying4 rfl ?_
      simp only [Act.put, List.setIfInBounds_toArray, List.set_cons_zero, List.set_cons_succ]
      refine det_pick _ _ _ true (.bool true) (by rfl) rfl rfl rfl ?_
      simp only [Act.put, List.setIfInBounds_toArray, List.set_cons_zero, List.set_cons_succ]
      refine det_move _ (.bool true) (by rfl) rfl rfl ?_
      simp only [Act.put, List.setIfInBounds_toArray, List.set_cons_zero, List.set_cons_succ]
      refine det_move _ (.bool false) (by rfl) rfl rfl ?_
      simp only [Act.put, List.setIfInBounds_toArray, List.set_cons_zero, List.set_cons_succ]
      refine det_not _ _ false (by rfl) rfl rfl ?_
      simp only [Act.put, List.setIfInBounds_toArray, List.set_cons_zero, List.set_cons_succ, Bool.not_true, Bool.not_false]
      refine det_move _ (.bool true) (by rfl) rfl rfl ?_
      simp only [Act.put, List.setIfInBounds_toArray, List.set_cons_zero, List.set_cons_succ]
      refine det_skip (by rfl) ?_
      simp only [Act.put, List.setIfInBounds_toArray, List.set_cons_zero, List.set_cons_succ]
      refine det_skip (by rfl) ?_
      simp only [Act.put, List.setIfInBounds_toArray, List.set_cons_zero, List.set_cons_succ]
      refine det_skip (by rfl) ?_
      simp only [Act.put, List.setIfInBounds_toArray, List.set_cons_zero, List.set_cons_succ]
      refine det_skip (by rfl) ?_
      simp only [Act.put, List.setIfInBounds_toArray, List.set_cons_zero, List.set_cons_succ]
      refine det_skip (by rfl) ?_
      simp only [Act.put, List.setIfInBounds_toArray, List.set_cons_zero, List.set_cons_succ]
      refine det_skip (by rfl) ?_
      simp only [Act.put, List.setIfInBounds_toArray, List.set_cons_zero, List.set_cons_succ]
      refine det_skip (by rfl) ?_
      simp only [Act.put, List.setIfInBounds_toArray, List.set_cons_zero, List.set_cons_succ]
      refine det_skip (by rfl) ?_
      simp only [Act.put, List.setIfInBounds_toArray, List.set_cons_zero, List.set_cons_succ]
      refine det_skip (by rfl) ?_
      simp only [Act.put, List.setIfInBounds_toArray, List.set_cons_zero, List.set_cons_succ]
      refine det_skip (by rfl) ?_
      simp only [Act.put, List.setIfInBounds_toArray, List.set_cons_zero, List.set_cons_succ]
      refine det_skip (by rfl) ?_
      simp only [Act.put, List.setIfInBounds_toArray, List.set_cons_zero, List.set_cons_succ]
      refine det_pick _ _ _ true (.bool true) (by rfl) rfl rfl rfl ?_
      simp only [Act.put, List.setIfInBounds_toArray, List.set_cons_zero, List.set_cons_succ]
      refine det_pick _ _ _ true (.bool true) (by rfl) rfl rfl rfl ?_
      simp only [Act.put, List.setIfInBounds_toArray, List.set_cons_zero, List.set_cons_succ]
      refine det_move _ (.bool true) (by rfl) rfl rfl ?_
      simp only [Act.put, List.setIfInBounds_toArray, List.set_cons_zero, List.set_cons_succ]
      refine det_move _ (.bool true) (by rfl) rfl rfl ?_
      simp only [Act.put, List.setIfInBounds_toArray, List.set_cons_zero, List.set_cons_succ]
      refine det_pick _ _ _ true (.bool true) (by rfl) rfl rfl rfl ?_
      simp only [Act.put, List.setIfInBounds_toArray, List.set_cons_zero, List.set_cons_succ]
      refine det_move _ (.bool true) (by rfl) rfl rfl ?_
      simp only [Act.put, List.setIfInBounds_toArray, List.set_cons_zero, List.set_cons_succ]
      refine det_load _ _ GC (NC.map bval) _ (by rfl) rfl rfl (fun w hw => ext_range HNC.out hw) Tryd.underlying23 rfl LSC.out ?_
      simp only [Act.put, List.setIfInBounds_toArray, List.set_cons_zero, List.set_cons_succ]
      refine det_load _ _ GD ((nb ((leN l : Nat) : Int)).map bval) _ (by rfl) rfl rfl (fun w hw => ext_range HCA.out hw) Tryd.underlying23 rfl (nb_size _) ?_
      simp only [Act.put, List.setIfInBounds_toArray, List.set_cons_zero, List.set_cons_succ]
      refine det_eql _ _ _ _ _ _ 32 _ NC (nb ((leN l : Nat) : Int)) false (by rfl) rfl (Or.inl ⟨rfl, decide_eq_false HT.out⟩) Tryd.underlying23 Tryd.underlying5 num_info num_cells num_guard rfl rfl LNC.out (nb_length _) ?_
      simp only [Act.put, List.setIfInBounds_toArray, List.set_cons_zero, List.set_cons_succ]
      refine det_move _ (.bool false) (by rfl) rfl rfl ?_
      simp only [Act.put, List.setIfInBounds_toArray, List.set_cons_zero, List.set_cons_succ]
      refine det_load _ _ GC (NC.map bval) _ (by rfl) rfl rfl (fun w hw => ext_range HNC.out hw) Tryd.underlying23 rfl LSC.out ?_
      simp only [Act.put, List.setIfInBounds_toArray, List.set_cons_zero, List.set_cons_succ]
      refine det_load _ _ GE ((nb (((leN zer : Nat) : Int) - ((leN l : Nat) : Int))).map bval) _ (by rfl) rfl rfl (fun w hw => ext_range HSB.out hw) Tryd.underlying23 rfl (nb_size _) ?_
      simp only [Act.put, List.setIfInBounds_toArray, List.set_cons_zero, List.set_cons_succ]
      refine det_eql _ _ _ _ _ _ 32 _ NC (nb (((leN zer : Nat) : Int) - ((leN l : Nat) : Int))) true (by rfl) rfl (Or.inl ⟨rfl, decide_eq_true (HBO.out.resolve_left HT.out)⟩) Tryd.underlying23 Tryd.underlying5 num_info num_cells num_guard rfl rfl LNC.out (nb_length _) ?_
      simp only [Act.put, List.setIfInBounds_toArray, List.set_cons_zero, List.set_cons_succ]
      refine det_pick _ _ _ false (.bool true) (by rfl) rfl rfl rfl ?_
      simp only [Act.put, List.setIfInBounds_toArray, List.set_cons_zero, List.set_cons_succ]
      refine det_pick _ _ _ true (.bool true) (by rfl) rfl rfl rfl ?_
      simp only [Act.put, List.setIfInBounds_toArray, List.set_cons_zero, List.set_cons_succ]
      refine det_assign _ (.bool true) (by rfl) rfl rfl ?_
      simp only [Act.put, List.setIfInBounds_toArray, List.set_cons_zero, List.set_cons_succ]
      refine det_nil (fun w9 hw9 => ?_)
      go_wp2_with fail
      go_ret
      exact ⟨rfl, HE.out.trans hw9⟩
    · skip
      refine wp_region_all (by kernel_rfl) (by kernel_rfl) ?_
      refine det_move _ (.bool true) (by rfl) rfl rfl ?_
      simp only [Act.put, List.setIfInBounds_toArray, List.set_cons_zero, List.set_cons_succ]
      refine det_move _ (.bool true) (by rfl) rfl rfl ?_
      simp only [Act.put, List.setIfInBounds_toArray, List.set_cons_zero, List.set_cons_succ]
      refine det_load _ _ GA (NA.map bval) _ (by rfl) rfl rfl (fun w hw => ext_range HNA.out hw) Tryd.underlying23 rfl LSA.out ?_
      simp only [Act.put, List.setIfInBounds_toArray, List.set_cons_zero, List.set_cons_succ]
      refine det_load _ _ GB (NA.map bval) _ (by rfl) rfl rfl (fun w hw => ext_range HNB.out hw) Tryd.underlying23 rfl LSA.out ?_
      simp only [Act.put, List.setIfInBounds_toArray, List.set_cons_zero, List.set_cons_succ]
      refine det_eql _ _ _ _ _ _ 32 _ NA NA true (by rfl) rfl (Or.inl ⟨rfl, decide_eq_true rfl⟩) Tryd.underlying23 Tryd.underlying5 num_info num_cells num_guard rfl rfl LNA.out LNA.out ?_
      simp only [Act.put, List.setIfInBounds_toArray, List.set_cons_zero, List.set_cons_succ]
      refine det_pick _ _ _ true (.bool true) (by rfl) rfl rfl rfl ?_
      simp only [Act.put, List.setIfInBounds_toArray, List.set_cons_zero, List.set_cons_succ]
      refine det_move _ (.bool true) (by rfl) rfl rfl ?_
      simp only [Act.put, List.setIfInBounds_toArray, List.set_cons_zero, List.set_cons_succ]
      refine det_move _ (.bool true) (by rfl) rfl rfl ?_
      simp only [Act.put, List.setIfInBounds_toArray, List.set_cons_zero, List.set_cons_succ]
      refine det_move _ (.bool true) (by rfl) rfl rfl ?_
      simp only [Act.put, List.setIfInBounds_toArray, List.set_cons_zero, List.set_cons_succ]
      refine det_beq _ _ _ _ true true true (by rfl) rfl rfl rfl Tryd.underlying4 rfl ?_
      simp only [Act.put, List.setIfInBounds_toArray, List.set_cons_zero, List.set_cons_succ]
      refine det_pick _ _ _ true (.bool true) (by rfl) rfl rfl rfl ?_
      simp only [Act.put, List.setIfInBounds_toArray, List.set_cons_zero, List.set_cons_succ]
      refine det_move _ (.bool true) (by rfl) rfl rfl ?_
      simp only [Act.put, List.setIfInBounds_toArray, List.set_cons_zero, List.set_cons_succ]
      refine det_move _ (.bool true) (by rfl) rfl rfl ?_
      simp only [Act.put, List.setIfInBounds_toArray, List.set_cons_zero, List.set_cons_succ]
      refine det_not _ _ true (by rfl) rfl rfl ?_
      simp only [Act.put, List.setIfInBounds_toArray, List.set_cons_zero, List.set_cons_succ, Bool.not_true, Bool.not_false]
      refine det_move _ (.bool false) (by rfl) rfl rfl ?_
      simp only [Act.put, List.setIfInBounds_toArray, List.set_cons_zero, List.set_cons_succ]
      refine det_load _ _ GA (NA.map bval) _ (by rfl) rfl rfl (fun w hw => ext_range HNA.out hw) Tryd.underlying23 rfl LSA.out ?_
      simp only [Act.put, List.setIfInBounds_toArray, List.set_cons_zero, List.set_cons_succ]
      refine det_load _ _ GA (NA.map bval) _ (by rfl) rfl rfl (fun w hw => ext_range HNA.out hw) Tryd.underlying23 rfl LSA.out ?_
      simp only [Act.put, List.setIfInBounds_toArray, List.set_cons_zero, List.set_cons_succ]
      refine det_call _ _ _ [.agg (NA.map bval).toArray, .agg (NA.map bval).toArray] (.agg ((nb (((leN NA : Nat) : Int) * ((leN NA : Nat) : Int))).map bval).toArray) (by rfl) rfl Tryd.call7 rfl (fun w hw => Mul_num NA NA w LNA.out LNA.out) ?_
      simp only [Act.put, List.setIfInBounds_toArray, List.set_cons_zero, List.set_cons_succ]
      refine det_load _ _ GD ((nb ((leN l : Nat) : Int)).map bval) _ (by rfl) rfl rfl (fun w hw => ext_range HCA.out hw) Tryd.underlying23 rfl (nb_size _) ?_
      simp only [Act.put, List.setIfInBounds_toArray, List.set_cons_zero, List.set_cons_succ]
      refine det_eql _ _ _ _ _ _ 32 _ (nb (((leN NA : Nat) : Int) * ((leN NA : Nat) : Int))) (nb ((leN l : Nat) : Int)) true (by rfl) rfl (Or.inl ⟨rfl, decide_eq_true (HSQ.out rfl)⟩) Tryd.underlying23 Tryd.underlying5 num_info num_cells num_guard rfl rfl (nb_length _) (nb_length _) ?_
      simp only [Act.put, List.setIfInBounds_toArray, List.set_cons_zero, List.set_cons_succ]
      refine det_move _ (.bool true) (by rfl) rfl rfl ?_
      simp only [Act.put, List.setIfInBounds_toArray, List.set_cons_zero, List.set_cons_succ]
      refine det_index _ _ _ _ GA 32 0 (by rfl) rfl rfl rfl Tryd.underlying23 (by omega) (Tryd.sizeOf5) ?_
      simp only [Act.put, List.setIfInBounds_toArray, List.set_cons_zero, List.set_cons_succ]
      refine det_cell _ _ GA 0 (.int .u8 (((NA.getD 0 0) : UInt8).toNat : Int)) (by rfl) rfl rfl (fun w hw => ((ext_blk HNA.out hw).cell 0).trans (bval_get (by rw [LNA.out]; omega))) (Tryd.isAgg5) ?_
      simp only [Act.put, List.setIfInBounds_toArray, List.set_cons_zero, List.set_cons_succ]
      refine det_and _ _ _ _ _ _ _ (0 : Int) (by rfl) rfl rfl rfl (by rw [andU1, HEV.out rfl]; rfl) ?_
      simp only [Act.put, List.setIfInBounds_toArray, List.set_cons_zero, List.set_cons_succ]
      refine det_val (.bool true) (by rfl) (fun w hw => byte_zero rfl rfl rfl) ?_
      simp only [Act.put, List.setIfInBounds_toArray, List.set_cons_zero, List.set_cons_succ]
      refine det_pick _ _ _ true (.bool true) (by rfl) rfl rfl rfl ?_
      simp only [Act.put, List.setIfInBounds_toArray, List.set_cons_zero, List.set_cons_succ]
      refine det_pick _ _ _ false (.bool true) (by rfl) rfl rfl rfl ?_
      simp only [Act.put, List.setIfInBounds_toArray, List.set_cons_zero, List.set_cons_succ]
      refine det_pick _ _ _ true (.bool true) (by rfl) rfl rfl rfl ?_
      simp only [Act.put, List.setIfInBounds_toArray, List.set_cons_zero, List.set_cons_succ]
      refine det_move _ (.bool true) (by rfl) rfl rfl ?_
      simp only [Act.put, List.setIfInBounds_toArray, List.set_cons_zero, List.set_cons_succ]
      refine det_move _ (.bool true) (by rfl) rfl rfl ?_
      simp only [Act.put, List.setIfInBounds_toArray, List.set_cons_zero, List.set_cons_succ]
      refine det_pick _ _ _ true (.bool true) (by rfl) rfl rfl rfl ?_
      simp only [Act.put, List.setIfInBounds_toArray, List.set_cons_zero, List.set_cons_succ]
      refine det_move _ (.bool true) (by rfl) rfl rfl ?_
      simp only [Act.put, List.setIfInBounds_toArray, List.set_cons_zero, List.set_cons_succ]
      refine det_load _ _ GC (NC.map bval) _ (by rfl) rfl rfl (fun w hw => ext_range HNC.out hw) Tryd.underlying23 rfl LSC.out ?_
      simp only [Act.put, List.setIfInBounds_toArray, List.set_cons_zero, List.set_cons_succ]
      refine det_load _ _ GD ((nb ((leN l : Nat) : Int)).map bval) _ (by rfl) rfl rfl (fun w hw => ext_range HCA.out hw) Tryd.underlying23 rfl (nb_size _) ?_
      simp only [Act.put, List.setIfInBounds_toArray, List.set_cons_zero, List.set_cons_succ]
      refine det_eql _ _ _ _ _ _ 32 _ NC (nb ((leN l : Nat) : Int)) false (by rfl) rfl (Or.inl ⟨rfl, decide_eq_false HT.out⟩) Tryd.underlying23 Tryd.underlying5 num_info num_cells num_guard rfl rfl LNC.out (nb_length _) ?_
      simp only [Act.put, List.setIfInBounds_toArray, List.set_cons_zero, List.set_cons_succ]
      refine det_move _ (.bool false) (by rfl) rfl rfl ?_
      simp only [Act.put, List.setIfInBounds_toArray, List.set_cons_zero, List.set_cons_succ]
      refine det_load _ _ GC (NC.map bval) _ (by rfl) rfl rfl (fun w hw => ext_range HNC.out hw) Tryd.underlying23 rfl LSC.out ?_
      simp only [Act.put, List.setIfInBounds_toArray, List.set_cons_zero, List.set_cons_succ]
      refine det_load _ _ GE ((nb (((leN zer : Nat) : Int) - ((leN l : Nat) : Int))).map bval) _ (by rfl) rfl rfl (fun w hw => ext_range HSB.out hw) Tryd.underlying23 rfl (nb_size _) ?_
      simp only [Act.put, List.setIfInBounds_toArray, List.set_cons_zero, List.set_cons_succ]
      refine det_eql _ _ _ _ _ _ 32 _ NC (nb (((leN zer : Nat) : Int) - ((leN l : Nat) : Int))) true (by rfl) rfl (Or.inl ⟨rfl, decide_eq_true (HBO.out.resolve_left HT.out)⟩) Tryd.underlying23 Tryd.underlying5 num_info num_cells num_guard rfl rfl LNC.out (nb_length _) ?_
      simp only [Act.put, List.setIfInBounds_toArray, List.set_cons_zero, List.set_cons_succ]
      refine det_pick _ _ _ false (.bool true) (by rfl) rfl rfl rfl ?_
      simp only [Act.put, List.setIfInBounds_toArray, List.set_cons_zero, List.set_cons_succ]
      refine det_pick _ _ _ true (.bool true) (by rfl) rfl rfl rfl ?_
      simp only [Act.put, List.setIfInBounds_toArray, List.set_cons_zero, List.set_cons_succ]
      refine det_assign _ (.bool true) (by rfl) rfl rfl ?_
      simp only [Act.put, List.setIfInBounds_toArray, List.set_cons_zero, List.set_cons_succ]
      refine det_nil (fun w9 hw9 => ?_)
      go_wp2_with fail
      go_ret
      exact ⟨rfl, HE.out.trans hw9⟩

end Go.Proofs.YtmiapjmdolecbaaDoor
