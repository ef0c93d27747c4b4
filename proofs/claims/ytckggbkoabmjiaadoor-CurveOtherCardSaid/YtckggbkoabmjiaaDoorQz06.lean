/- Texts that belong together, one behind the other. -/
import Derived.Deep.CutRange
import Derived.KernelRfl
import Derived.Laws.ResultCell
import Derived.Deep.MidRow
import Derived.WalkKit
import Derived.WalkSpells
import Derived.WalkLawsBesides
import Derived.Lib.Hide
import Derived.Deep.QuietTactic
import Derived.BigQuiet
import Derived.Deep.RegionHeld3
import Derived.Deep.AppendLies
import Derived.OneCell
import Derived.Deep.Quiet
import Derived.OrdersHeld
import Derived.Deep.RegionHeld
import Derived.ChangeKeysEq
import Derived.Laws.Tables
import Derived.Great.BuildSlice
import Derived.Lib.Mul64
import Derived.Laws.Bits64b
import Derived.Laws.Externs
import Derived.Test.YtckggbkoabmjiaaDoorQz01
import Derived.Test.YtckggbkoabmjiaaDoorQz02
import Derived.Test.YtckggbkoabmjiaaDoorQz05
namespace Go.Proofs.YtckggbkoabmjiaaDoor
set_option linter.unusedVariables false
set_option linter.unusedSimpArgs false
open Go.RowKit
theorem cpickn_f (w : World) (s : Bool) (f g : Fp) : Calls Tryd.prog 62 #[.agg ((nbF f).map bval).toArray, .agg ((nbF g).map bval).toArray, .bool s] w fun e w' => e = .returned (.agg ((nbF (pkF s f g)).map bval).toArray) ∧ Below w.heap.size w w' := by
 have h := fpick_f s w (nbF_length f) (nbF_length g)
 rwa [pkL_nbF] at h
set_option maxRecDepth 100000 in
set_option maxHeartbeats 4000000 in
theorem csquare_f (w : World) (f : Fp) : Calls Tryd.prog 86 #[.agg ((nbF f).map bval).toArray] w fun e w' => e = .returned (.agg ((nbF (f * f)).map bval).toArray) ∧ Below w.heap.size w w' := by
 have HB := Lib.hid (boxes2 w ((nbF f).map bval) (ints .u8 (List.replicate 32 0)) 23 23)
 go_enter Tryd.func86, Tryd.ntmps86
 go_upto_region 1 with (fail)
 obtain ⟨H1, H2, HE⟩ := HB.out
 change Code.wp _ _ _ _ (World.alloc (World.alloc w (.cells ((nbF f).map bval).toArray 23)) (.cells (ints .u8 (List.replicate 32 0)).toArray 23))
 generalize (World.alloc (World.alloc w (.cells ((nbF f).map bval).toArray 23)) (.cells (ints .u8 (List.replicate 32 0)).toArray 23)) = wa at *
 obtain ⟨A, hA⟩ : ∃ A, A = w.heap.size := ⟨_, rfl⟩
 have HAW : Hid (w.heap.size ≤ A) := Lib.hid (by omega)
 rw [← hA] at H1 H2 ⊢
 have H1 := Lib.hid H1
 have H2 := Lib.hid H2
 have HE : Hid (Ext w wa) := Lib.hid HE
 clear hA HB
 go_wp2_with (first | (refine wpList_load_mid rfl _ _ rfl A 0 rfl _ _ (H1.out.range) Tryd.underlying23 rfl (num_size (nbF_length _)) ?_))
 refine (fmul_f _ (F32.nb _) (F32.nb _)).mono ?_
 rintro e w5 ⟨rfl, hb⟩
 have H2 := Lib.hid (ext_blk H2.out hb)
 have HE := Lib.hid (HE.out.trans hb)
 obtain ⟨z, hz⟩ : ∃ z, z = f * f := ⟨_, rfl⟩
 rw [← hz]
 have HZQ := Lib.hid hz
 clear hz hb
 have HL : Hid (((nbF z).map bval).length = (ints .u8 (List.replicate 32 0)).length) := Lib.hid (by rw [List.length_map, nbF_length]; rfl)
 go_wp2_with (refine wpList_store_blk rfl _ _ _ rfl (A + 1) ((nbF z).map bval) rfl rfl _ _ H2.out HL.out (num_size (nbF_length _)) (bval_one _) ?_; intro w8 hb8 hg8)
 exact bodyPost_ret (result_row (by rfl) _ (A + 1) _ _ _ (by rfl) hb8 Tryd.underlying23 rfl (num_size (nbF_length _))) rfl ⟨by rw [← HZQ.out], ext_grown HE.out hg8 (by have := HAW.out; omega)⟩
set_option maxRecDepth 100000 in
set_option maxHeartbeats 4000000 in
theorem cdouble_f (w : World) (f : Fp) : Calls Tryd.prog 88 #[.agg ((nbF f).map bval).toArray] w fun e w' => e = .returned (.agg ((nbF (f + f)).map bval).toArray) ∧ Below w.heap.size w w' := by
 have HB := Lib.hid (boxes2 w ((nbF f).map bval) (ints .u8 (List.replicate 32 0)) 23 23)
 go_enter Tryd.func88, Tryd.ntmps88
 go_upto_region 1 with (fail)
 obtain ⟨H1, H2, HE⟩ := HB.out
 change Code.wp _ _ _ _ (World.alloc (World.alloc w (.cells ((nbF f).map bval).toArray 23)) (.cells (ints .u8 (List.replicate 32 0)).toArray 23))
 generalize (World.alloc (World.alloc w (.cells ((nbF f).map bval).toArray 23)) (.cells (ints .u8 (List.replicate 32 0)).toArray 23)) = wa at *
 obtain ⟨A, hA⟩ : ∃ A, A = w.heap.size := ⟨_, rfl⟩
 have HAW : Hid (w.heap.size ≤ A) := Lib.hid (by omega)
 rw [← hA] at H1 H2 ⊢
 have H1 := Lib.hid H1
 have H2 := Lib.hid H2
 have HE : Hid (Ext w wa) := Lib.hid HE
 clear hA HB
 go_wp2_with (first | (refine wpList_load_mid rfl _ _ rfl A 0 rfl _ _ (H1.out.range) Tryd.underlying23 rfl (num_size (nbF_length _)) ?_))
 refine (fadd_f _ (F32.nb _) (F32.nb _)).mono ?_
 rintro e w5 ⟨rfl, hb⟩
 have H2 := Lib.hid (ext_blk H2.out hb)
 have HE := Lib.hid (HE.out.trans hb)
 obtain ⟨z, hz⟩ : ∃ z, z = f + f := ⟨_, rfl⟩
 rw [← hz]
 have HZQ := Lib.hid hz
 clear hz hb
 have HL : Hid (((nbF z).map bval).length = (ints .u8 (List.replicate 32 0)).length) := Lib.hid (by rw [List.length_map, nbF_length]; rfl)
 go_wp2_with (refine wpList_store_blk rfl _ _ _ rfl (A + 1) ((nbF z).map bval) rfl rfl _ _ H2.out HL.out (num_size (nbF_length _)) (bval_one _) ?_; intro w8 hb8 hg8)
 exact bodyPost_ret (result_row (by rfl) _ (A + 1) _ _ _ (by rfl) hb8 Tryd.underlying23 rfl (num_size (nbF_length _))) rfl ⟨by rw [← HZQ.out], ext_grown HE.out hg8 (by have := HAW.out; omega)⟩
set_option maxRecDepth 100000 in
set_option maxHeartbeats 4000000 in
theorem cover_f (w : World) (x bx y b : Fp) : Calls Tryd.prog 87 #[.agg ((nbF x).map bval).toArray, .agg ((nbF bx).map bval).toArray, .agg ((nbF y).map bval).toArray, .agg ((nbF b).map bval).toArray] w fun e w' => e = .returned (.agg (ptF (overE x bx y b)).toArray) ∧ Below w.heap.size w w' := by
 have HB := Lib.hid (boxes5 w ((nbF x).map bval) ((nbF bx).map bval) ((nbF y).map bval) ((nbF b).map bval) zq 23 23 23 23 47)
 go_enter Tryd.func87, Tryd.ntmps87
 go_upto_region 1 with (fail)
 obtain ⟨H1, H2, H3, H4, H5, HE⟩ := HB.out
 change Code.wp _ _ _ _ (World.alloc (World.alloc (World.alloc (World.alloc (World.alloc w (.cells ((nbF x).map bval).toArray 23)) (.cells ((nbF bx).map bval).toArray 23)) (.cells ((nbF y).map bval).toArray 23)) (.cells ((nbF b).map bval).toArray 23)) (.cells zq.toArray 47))
 generalize (World.alloc (World.alloc (World.alloc (World.alloc (World.alloc w (.cells ((nbF x).map bval).toArray 23)) (.cells ((nbF bx).map bval).toArray 23)) (.cells ((nbF y).map bval).toArray 23)) (.cells ((nbF b).map bval).toArray 23)) (.cells zq.toArray 47)) = wa at *
 obtain ⟨A, hA⟩ : ∃ A, A = w.heap.size := ⟨_, rfl⟩
 have HAW : Hid (w.heap.size ≤ A) := Lib.hid (by omega)
 rw [← hA] at H1 H2 H3 H4 H5 ⊢
 have H1 := Lib.hid H1
 have H2 := Lib.hid H2
 have H3 := Lib.hid H3
 have H4 := Lib.hid H4
 have H5 := Lib.hid H5
 have HE : Hid (Ext w wa) := Lib.hid HE
 clear hA HB
 go_wp2_with fail
 refine wp_region_from 13 1 13 rfl (by kernel_rfl) (by kernel_rfl) (fun d v c a w h => by cases d <;> exact h) (by kernel_rfl) ?_
 refine det_loadk _ _ A 0 ((nbF x).map bval) _ (by rfl) rfl rfl (fun w hw => (ext_blk H1.out hw).range) Tryd.underlying23 rfl (num_size (nbF_length _)) ?_
 simp only [Act.put, nrm]
 refine det_loadk _ _ (A + 1 + 1 + 1) 0 ((nbF b).map bval) _ (by rfl) rfl rfl (fun w hw => (ext_blk H4.out hw).range) Tryd.underlying23 rfl (num_size (nbF_length _)) ?_
 simp only [Act.put, nrm]
 refine det_call _ _ _ [.agg ((nbF x).map bval).toArray, .agg ((nbF b).map bval).toArray] (.agg ((nbF (x * b)).map bval).toArray) (by rfl) rfl Tryd.call45 rfl (fun w hw => fmul_f w (F32.nb _) (F32.nb _)) ?_
 simp only [Act.put, nrm]
 refine det_loadk _ _ (A + 1 + 1) 0 ((nbF y).map bval) _ (by rfl) rfl rfl (fun w hw => (ext_blk H3.out hw).range) Tryd.underlying23 rfl (num_size (nbF_length _)) ?_
 simp only [Act.put, nrm]
 refine det_loadk _ _ (A + 1) 0 ((nbF bx).map bval) _ (by rfl) rfl rfl (fun w hw => (ext_blk H2.out hw).range) Tryd.underlying23 rfl (num_size (nbF_length _)) ?_
 simp only [Act.put, nrm]
 refine det_call _ _ _ [.agg ((nbF y).map bval).toArray, .agg ((nbF bx).map bval).toArray] (.agg ((nbF (y * bx)).map bval).toArray) (by rfl) rfl Tryd.call45 rfl (fun w hw => fmul_f w (F32.nb _) (F32.nb _)) ?_
 simp only [Act.put, nrm]
 refine det_loadk _ _ (A + 1) 0 ((nbF bx).map bval) _ (by rfl) rfl rfl (fun w hw => (ext_blk H2.out hw).range) Tryd.underlying23 rfl (num_size (nbF_length _)) ?_
 simp only [Act.put, nrm]
 refine det_loadk _ _ (A + 1 + 1 + 1) 0 ((nbF b).map bval) _ (by rfl) rfl rfl (fun w hw => (ext_blk H4.out hw).range) Tryd.underlying23 rfl (num_size (nbF_length _)) ?_
 simp only [Act.put, nrm]
 refine det_call _ _ _ [.agg ((nbF bx).map bval).toArray, .agg ((nbF b).map bval).toArray] (.agg ((nbF (bx * b)).map bval).toArray) (by rfl) rfl Tryd.call45 rfl (fun w hw => fmul_f w (F32.nb _) (F32.nb _)) ?_
 simp only [Act.put, nrm]
 refine det_loadk _ _ A 0 ((nbF x).map bval) _ (by rfl) rfl rfl (fun w hw => (ext_blk H1.out hw).range) Tryd.underlying23 rfl (num_size (nbF_length _)) ?_
 simp only [Act.put, nrm]
 refine det_loadk _ _ (A + 1 + 1) 0 ((nbF y).map bval) _ (by rfl) rfl rfl (fun w hw => (ext_blk H3.out hw).range) Tryd.underlying23 rfl (num_size (nbF_length _)) ?_
 simp only [Act.put, nrm]
 refine det_call _ _ _ [.agg ((nbF x).map bval).toArray, .agg ((nbF y).map bval).toArray] (.agg ((nbF (x * y)).map bval).toArray) (by rfl) rfl Tryd.call45 rfl (fun w hw => fmul_f w (F32.nb _) (F32.nb _)) ?_
 simp only [Act.put, nrm]
 refine det_build _ _ #[(0, .agg ((nbF (x * b)).map bval).toArray), (1, .agg ((nbF (y * bx)).map bval).toArray), (2, .agg ((nbF (bx * b)).map bval).toArray), (3, .agg ((nbF (x * y)).map bval).toArray)] (.agg (ptF ⟨x * b, y * bx, bx * b, x * y⟩).toArray) (by rfl) rfl (by simp [Act.eval]) (fun w => build_ptF ⟨x * b, y * bx, bx * b, x * y⟩ w) ?_
 simp only [Act.put, nrm]
 refine det_nil (end_set (k := 13) _ _ _ _ (A + 1 + 1 + 1 + 1) (ptF ⟨x * b, y * bx, bx * b, x * y⟩) zq rfl (by kernel_rfl) (by kernel_rfl) (by kernel_rfl) rfl rfl rfl rfl H5.out ((ptF_length _).trans zq_length.symm) (ptF_size _) (ptF_one _) (fun w8 hb8 hg8 => ?_))
 simp only [Act.put]
 go_wp2_with fail
 exact bodyPost_ret (result_row (by rfl) _ (A + 1 + 1 + 1 + 1) _ _ _ (by rfl) hb8 Tryd.underlying47 rfl (ptF_size _)) rfl ⟨rfl, ext_grown HE.out hg8 (by have := HAW.out; omega)⟩
set_option maxRecDepth 100000 in
set_option maxHeartbeats 4000000 in
theorem csum_f (w : World) (p q : ES) (hG : GlobC w) : Calls Tryd.prog 49 #[.agg (ptF p).toArray, .agg (ptF q).toArray] w fun e w' => e = .returned (.agg (ptF (p.sum q)).toArray) ∧ Below w.heap.size w w' := by
 have HGC := Lib.hid hG
 clear hG
 have HB := Lib.hid (boxes3 w (ptF p) (ptF q) zq 47 47 47)
 go_enter Tryd.func49, Tryd.ntmps49
 go_upto_region 1 with (fail)
 obtain ⟨H1, H2, H3, HE⟩ := HB.out
 change Code.wp _ _ _ _ (World.alloc (World.alloc (World.alloc w (.cells (ptF p).toArray 47)) (.cells (ptF q).toArray 47)) (.cells zq.toArray 47))
 generalize (World.alloc (World.alloc (World.alloc w (.cells (ptF p).toArray 47)) (.cells (ptF q).toArray 47)) (.cells zq.toArray 47)) = wa at *
 obtain ⟨A, hA⟩ : ∃ A, A = w.heap.size := ⟨_, rfl⟩
 have HAW : Hid (w.heap.size ≤ A) := Lib.hid (by omega)
 rw [← hA] at H1 H2 H3 ⊢
 have H1 := Lib.hid H1
 have H2 := Lib.hid H2
 have H3 := Lib.hid H3
 have HE : Hid (Ext w wa) := Lib.hid HE
 clear hA HB
 go_wp2_with fail
 refine wp_region_from 11 2 12 rfl (by kernel_rfl) (by kernel_rfl) (fun d v c a w h => by cases d <;> exact h) (by kernel_rfl) ?_
 refine det_fieldk _ _ A _ 0 32 (by rfl) rfl rfl (fun w => by go_simp) ?_
 simp only [Act.put, nrm]
 refine det_loadk _ _ A 32 ((nbF p.y).map bval) _ (by rfl) rfl rfl (fun w hw => ptF_y ((ext_blk H1.out hw).range) rfl) Tryd.underlying23 rfl (num_size (nbF_length _)) ?_
 simp only [Act.put, nrm]
 refine det_fieldk _ _ A _ 0 0 (by rfl) rfl rfl (fun w => by go_simp) ?_
 simp only [Act.put, nrm]
 refine det_loadk _ _ A 0 ((nbF p.x).map bval) _ (by rfl) rfl rfl (fun w hw => ptF_x ((ext_blk H1.out hw).range)) Tryd.underlying23 rfl (num_size (nbF_length _)) ?_
 simp only [Act.put, nrm]
 refine det_call _ _ _ [.agg ((nbF p.y).map bval).toArray, .agg ((nbF p.x).map bval).toArray] (.agg ((nbF (p.y - p.x)).map bval).toArray) (by rfl) rfl Tryd.call61 rfl (fun w hw => fsub_f w (F32.nb _) (F32.nb _)) ?_
 simp only [Act.put, nrm]
 refine det_fieldk _ _ (A + 1) _ 0 32 (by rfl) rfl rfl (fun w => by go_simp) ?_
 simp only [Act.put, nrm]
 refine det_loadk _ _ (A + 1) 32 ((nbF q.y).map bval) _ (by rfl) rfl rfl (fun w hw => ptF_y ((ext_blk H2.out hw).range) rfl) Tryd.underlying23 rfl (num_size (nbF_length _)) ?_
 simp only [Act.put, nrm]
 refine det_fieldk _ _ (A + 1) _ 0 0 (by rfl) rfl rfl (fun w => by go_simp) ?_
 simp only [Act.put, nrm]
 refine det_loadk _ _ (A + 1) 0 ((nbF q.x).map bval) _ (by rfl) rfl rfl (fun w hw => ptF_x ((ext_blk H2.out hw).range)) Tryd.underlying23 rfl (num_size (nbF_length _)) ?_
 simp only [Act.put, nrm]
 refine det_call _ _ _ [.agg ((nbF q.y).map bval).toArray, .agg ((nbF q.x).map bval).toArray] (.agg ((nbF (q.y - q.x)).map bval).toArray) (by rfl) rfl Tryd.call61 rfl (fun w hw => fsub_f w (F32.nb _) (F32.nb _)) ?_
 simp only [Act.put, nrm]
 refine det_call _ _ _ [.agg ((nbF (p.y - p.x)).map bval).toArray, .agg ((nbF (q.y - q.x)).map bval).toArray] (.agg ((nbF ((p.y - p.x) * (q.y - q.x))).map bval).toArray) (by rfl) rfl Tryd.call45 rfl (fun w hw => fmul_f w (F32.nb _) (F32.nb _)) ?_
 simp only [Act.put, nrm]
 refine det_nil (end_var (k := 11) _ 5 (.tmp 19) (ints .u8 (List.replicate 32 0)) ((nbF ((p.y - p.x) * (q.y - q.x))).map bval) rfl rfl (by kernel_rfl) (by kernel_rfl) (by kernel_rfl) (by kernel_rfl) (by kernel_rfl) rfl rfl rfl rfl (fun w => by rw [Tryd.zeroValue23]; rfl) rfl (by simp) (fun p => rfl) (by rw [List.length_map, nbF_length]; rfl) (num_size (nbF_length _)) (bval_one _) (fun pl wl hp hb he => ?_))
 try simp only [Act.put, nrm]
 have H1 := Lib.hid (ext_blk H1.out he)
 have H2 := Lib.hid (ext_blk H2.out he)
 have H3 := Lib.hid (ext_blk H3.out he)
 have HE := Lib.hid (HE.out.trans he)
 have HPl := Lib.hid hp
 clear he hp
 obtain ⟨vl, hq⟩ : ∃ kk, kk = ((p.y - p.x) * (q.y - q.x)) := ⟨_, rfl⟩
 rw [← hq] at hb
 have HQl := Lib.hid hq
 clear hq
 have HVl := Lib.hid hb
 clear hb
 go_wp2_with fail
 refine wp_region_from 11 2 12 rfl (by kernel_rfl) (by kernel_rfl) (fun d v c a w h => by cases d <;> exact h) (by kernel_rfl) ?_
 refine det_fieldk _ _ A _ 0 32 (by rfl) rfl rfl (fun w => by go_simp) ?_
 simp only [Act.put, nrm]
 refine det_loadk _ _ A 32 ((nbF p.y).map bval) _ (by rfl) rfl rfl (fun w hw => ptF_y ((ext_blk H1.out hw).range) rfl) Tryd.underlying23 rfl (num_size (nbF_length _)) ?_
 simp only [Act.put, nrm]
 refine det_fieldk _ _ A _ 0 0 (by rfl) rfl rfl (fun w => by go_simp) ?_
 simp only [Act.put, nrm]
 refine det_loadk _ _ A 0 ((nbF p.x).map bval) _ (by rfl) rfl rfl (fun w hw => ptF_x ((ext_blk H1.out hw).range)) Tryd.underlying23 rfl (num_size (nbF_length _)) ?_
 simp only [Act.put, nrm]
 refine det_call _ _ _ [.agg ((nbF p.y).map bval).toArray, .agg ((nbF p.x).map bval).toArray] (.agg ((nbF (p.y + p.x)).map bval).toArray) (by rfl) rfl Tryd.call59 rfl (fun w hw => fadd_f w (F32.nb _) (F32.nb _)) ?_
 simp only [Act.put, nrm]
 refine det_fieldk _ _ (A + 1) _ 0 32 (by rfl) rfl rfl (fun w => by go_simp) ?_
 simp only [Act.put, nrm]
 refine det_loadk _ _ (A + 1) 32 ((nbF q.y).map bval) _ (by rfl) rfl rfl (fun w hw => ptF_y ((ext_blk H2.out hw).range) rfl) Tryd.underlying23 rfl (num_size (nbF_length _)) ?_
 simp only [Act.put, nrm]
 refine det_fieldk _ _ (A + 1) _ 0 0 (by rfl) rfl rfl (fun w => by go_simp) ?_
 simp only [Act.put, nrm]
 refine det_loadk _ _ (A + 1) 0 ((nbF q.x).map bval) _ (by rfl) rfl rfl (fun w hw => ptF_x ((ext_blk H2.out hw).range)) Tryd.underlying23 rfl (num_size (nbF_length _)) ?_
 simp only [Act.put, nrm]
 refine det_call _ _ _ [.agg ((nbF q.y).map bval).toArray, .agg ((nbF q.x).map bval).toArray] (.agg ((nbF (q.y + q.x)).map bval).toArray) (by rfl) rfl Tryd.call59 rfl (fun w hw => fadd_f w (F32.nb _) (F32.nb _)) ?_
 simp only [Act.put, nrm]
 refine det_call _ _ _ [.agg ((nbF (p.y + p.x)).map bval).toArray, .agg ((nbF (q.y + q.x)).map bval).toArray] (.agg ((nbF ((p.y + p.x) * (q.y + q.x))).map bval).toArray) (by rfl) rfl Tryd.call45 rfl (fun w hw => fmul_f w (F32.nb _) (F32.nb _)) ?_
 simp only [Act.put, nrm]
 refine det_nil (end_var (k := 11) _ 6 (.tmp 30) (ints .u8 (List.replicate 32 0)) ((nbF ((p.y + p.x) * (q.y + q.x))).map bval) rfl rfl (by kernel_rfl) (by kernel_rfl) (by kernel_rfl) (by kernel_rfl) (by kernel_rfl) rfl rfl rfl rfl (fun w => by rw [Tryd.zeroValue23]; rfl) rfl (by simp) (fun p => rfl) (by rw [List.length_map, nbF_length]; rfl) (num_size (nbF_length _)) (bval_one _) (fun pm wm hp hb he => ?_))
 try simp only [Act.put, nrm]
 have H1 := Lib.hid (ext_blk H1.out he)
 have H2 := Lib.hid (ext_blk H2.out he)
 have H3 := Lib.hid (ext_blk H3.out he)
 have HVl := Lib.hid (ext_blk HVl.out he)
 have HE := Lib.hid (HE.out.trans he)
 have HPm := Lib.hid hp
 clear he hp
 obtain ⟨vm, hq⟩ : ∃ kk, kk = ((p.y + p.x) * (q.y + q.x)) := ⟨_, rfl⟩
 rw [← hq] at hb
 have HQm := Lib.hid hq
 clear hq
 have HVm := Lib.hid hb
 clear hb
 go_wp2_with (first | (refine wpList_load_mid rfl _ _ rfl A 64 rfl _ _ (ptF_z (H1.out.range) rfl) Tryd.underlying23 rfl (num_size (nbF_length _)) ?_) | (refine wpList_load_mid rfl _ _ rfl (A + 1) 64 rfl _ _ (ptF_z (H2.out.range) rfl) Tryd.underlying23 rfl (num_size (nbF_length _)) ?_))
 refine (fmul_f _ (F32.nb _) (F32.nb _)).mono ?_
 rintro e w5 ⟨rfl, hb⟩
 have H1 := Lib.hid (ext_blk H1.out hb)
 have H2 := Lib.hid (ext_blk H2.out hb)
 have H3 := Lib.hid (ext_blk H3.out hb)
 have HVl := Lib.hid (ext_blk HVl.out hb)
 have HVm := Lib.hid (ext_blk HVm.out hb)
 have HE := Lib.hid (HE.out.trans hb)
 clear hb
 go_wp2_with fail
 refine (cdouble_f _ _).mono ?_
 rintro e w6 ⟨rfl, hb⟩
 have H1 := Lib.hid (ext_blk H1.out hb)
 have H2 := Lib.hid (ext_blk H2.out hb)
 have H3 := Lib.hid (ext_blk H3.out hb)
 have HVl := Lib.hid (ext_blk HVl.out hb)
 have HVm := Lib.hid (ext_blk HVm.out hb)
 have HE := Lib.hid (HE.out.trans hb)
 clear hb
 obtain ⟨vz, hq⟩ : ∃ k, k = p.z * q.z + p.z * q.z := ⟨_, rfl⟩
 rw [← hq]
 have HQz := Lib.hid hq
 clear hq
 have HZ := Lib.hid (Blk.made w6 (ints .u8 (List.replicate 32 0)) 23)
 have HEA := Lib.hid (Ext.alloc w6 (.cells (ints .u8 (List.replicate 32 0)).toArray 23))
 have HL : Hid (((nbF vz).map bval).length = (ints .u8 (List.replicate 32 0)).length) := Lib.hid (by rw [List.length_map, nbF_length]; rfl)
 go_upto_region 4 with (refine wpList_store_blk rfl _ _ _ rfl w6.heap.size ((nbF vz).map bval) rfl rfl _ _ HZ.out HL.out (num_size (nbF_length _)) (bval_one _) ?_; intro w7 hb hg)
 have HX := Lib.hid (ext_grown HEA.out hg (Nat.le_refl _))
 obtain ⟨pz, hT⟩ : ∃ T, T = w6.heap.size := ⟨_, rfl⟩
 rw [← hT] at hb ⊢
 clear hT
 have H1 := Lib.hid (ext_blk H1.out HX.out)
 have H2 := Lib.hid (ext_blk H2.out HX.out)
 have H3 := Lib.hid (ext_blk H3.out HX.out)
 have HVl := Lib.hid (ext_blk HVl.out HX.out)
 have HVm := Lib.hid (ext_blk HVm.out HX.out)
 have HE := Lib.hid (HE.out.trans HX.out)
 have HVz := Lib.hid hb
 clear hb hg HX HZ HEA
 generalize w7 = wz at *
 go_wp2_with fail
 refine wp_region_from 8 2 9 rfl (by kernel_rfl) (by kernel_rfl) (fun d v c a w h => by cases d <;> exact h) (by kernel_rfl) ?_
 refine det_loadk _ _ 2 0 ((nbF dF).map bval) _ (by rfl) rfl rfl (fun w hw => HGC.out.ext (HE.out.trans hw)) Tryd.underlying23 rfl (num_size (nbF_length _)) ?_
 simp only [Act.put, nrm]
 refine det_fieldk _ _ A _ 0 96 (by rfl) rfl rfl (fun w => by go_simp) ?_
 simp only [Act.put, nrm]
 refine det_loadk _ _ A 96 ((nbF p.t).map bval) _ (by rfl) rfl rfl (fun w hw => ptF_t ((ext_blk H1.out hw).range) rfl) Tryd.underlying23 rfl (num_size (nbF_length _)) ?_
 simp only [Act.put, nrm]
 refine det_fieldk _ _ (A + 1) _ 0 96 (by rfl) rfl rfl (fun w => by go_simp) ?_
 simp only [Act.put, nrm]
 refine det_loadk _ _ (A + 1) 96 ((nbF q.t).map bval) _ (by rfl) rfl rfl (fun w hw => ptF_t ((ext_blk H2.out hw).range) rfl) Tryd.underlying23 rfl (num_size (nbF_length _)) ?_
 simp only [Act.put, nrm]
 refine det_call _ _ _ [.agg ((nbF p.t).map bval).toArray, .agg ((nbF q.t).map bval).toArray] (.agg ((nbF (p.t * q.t)).map bval).toArray) (by rfl) rfl Tryd.call45 rfl (fun w hw => fmul_f w (F32.nb _) (F32.nb _)) ?_
 simp only [Act.put, nrm]
 refine det_call _ _ _ [.agg ((nbF dF).map bval).toArray, .agg ((nbF (p.t * q.t)).map bval).toArray] (.agg ((nbF (dF * (p.t * q.t))).map bval).toArray) (by rfl) rfl Tryd.call45 rfl (fun w hw => fmul_f w (F32.nb _) (F32.nb _)) ?_
 simp only [Act.put, nrm]
 refine det_call _ _ _ [.agg ((nbF (dF * (p.t * q.t))).map bval).toArray] (.agg ((nbF ((dF * (p.t * q.t)) + (dF * (p.t * q.t)))).map bval).toArray) (by rfl) rfl Tryd.call88 rfl (fun w hw => cdouble_f w (dF * (p.t * q.t))) ?_
 simp only [Act.put, nrm]
 refine det_nil (end_var (k := 8) _ 8 (.tmp 44) (ints .u8 (List.replicate 32 0)) ((nbF ((dF * (p.t * q.t)) + (dF * (p.t * q.t)))).map bval) rfl rfl (by kernel_rfl) (by kernel_rfl) (by kernel_rfl) (by kernel_rfl) (by kernel_rfl) rfl rfl rfl rfl (fun w => by rw [Tryd.zeroValue23]; rfl) rfl (by simp) (fun p => rfl) (by rw [List.length_map, nbF_length]; rfl) (num_size (nbF_length _)) (bval_one _) (fun pt wt hp hb he => ?_))
 try simp only [Act.put, nrm]
 have H1 := Lib.hid (ext_blk H1.out he)
 have H2 := Lib.hid (ext_blk H2.out he)
 have H3 := Lib.hid (ext_blk H3.out he)
 have HVl := Lib.hid (ext_blk HVl.out he)
 have HVm := Lib.hid (ext_blk HVm.out he)
 have HVz := Lib.hid (ext_blk HVz.out he)
 have HE := Lib.hid (HE.out.trans he)
 have HPt := Lib.hid hp
 clear he hp
 obtain ⟨vt, hq⟩ : ∃ kk, kk = ((dF * (p.t * q.t)) + (dF * (p.t * q.t))) := ⟨_, rfl⟩
 rw [← hq] at hb
 have HQt := Lib.hid hq
 clear hq
 have HVt := Lib.hid hb
 clear hb
 go_wp2_with fail
 refine wp_region_from 13 1 13 rfl (by kernel_rfl) (by kernel_rfl) (fun d v c a w h => by cases d <;> exact h) (by kernel_rfl) ?_
 refine det_loadk _ _ pm 0 ((nbF vm).map bval) _ (by rfl) rfl rfl (fun w hw => (ext_blk HVm.out hw).range) Tryd.underlying23 rfl (num_size (nbF_length _)) ?_
 simp only [Act.put, nrm]
 refine det_loadk _ _ pl 0 ((nbF vl).map bval) _ (by rfl) rfl rfl (fun w hw => (ext_blk HVl.out hw).range) Tryd.underlying23 rfl (num_size (nbF_length _)) ?_
 simp only [Act.put, nrm]
 refine det_call _ _ _ [.agg ((nbF vm).map bval).toArray, .agg ((nbF vl).map bval).toArray] (.agg ((nbF (vm - vl)).map bval).toArray) (by rfl) rfl Tryd.call61 rfl (fun w hw => fsub_f w (F32.nb _) (F32.nb _)) ?_
 simp only [Act.put, nrm]
 refine det_loadk _ _ pz 0 ((nbF vz).map bval) _ (by rfl) rfl rfl (fun w hw => (ext_blk HVz.out hw).range) Tryd.underlying23 rfl (num_size (nbF_length _)) ?_
 simp only [Act.put, nrm]
 refine det_loadk _ _ pt 0 ((nbF vt).map bval) _ (by rfl) rfl rfl (fun w hw => (ext_blk HVt.out hw).range) Tryd.underlying23 rfl (num_size (nbF_length _)) ?_
 simp only [Act.put, nrm]
 refine det_call _ _ _ [.agg ((nbF vz).map bval).toArray, .agg ((nbF vt).map bval).toArray] (.agg ((nbF (vz + vt)).map bval).toArray) (by rfl) rfl Tryd.call59 rfl (fun w hw => fadd_f w (F32.nb _) (F32.nb _)) ?_
 simp only [Act.put, nrm]
 refine det_loadk _ _ pm 0 ((nbF vm).map bval) _ (by rfl) rfl rfl (fun w hw => (ext_blk HVm.out hw).range) Tryd.underlying23 rfl (num_size (nbF_length _)) ?_
 simp only [Act.put, nrm]
 refine det_loadk _ _ pl 0 ((nbF vl).map bval) _ (by rfl) rfl rfl (fun w hw => (ext_blk HVl.out hw).range) Tryd.underlying23 rfl (num_size (nbF_length _)) ?_
 simp only [Act.put, nrm]
 refine det_call _ _ _ [.agg ((nbF vm).map bval).toArray, .agg ((nbF vl).map bval).toArray] (.agg ((nbF (vm + vl)).map bval).toArray) (by rfl) rfl Tryd.call59 rfl (fun w hw => fadd_f w (F32.nb _) (F32.nb _)) ?_
 simp only [Act.put, nrm]
 refine det_loadk _ _ pz 0 ((nbF vz).map bval) _ (by rfl) rfl rfl (fun w hw => (ext_blk HVz.out hw).range) Tryd.underlying23 rfl (num_size (nbF_length _)) ?_
 simp only [Act.put, nrm]
 refine det_loadk _ _ pt 0 ((nbF vt).map bval) _ (by rfl) rfl rfl (fun w hw => (ext_blk HVt.out hw).range) Tryd.underlying23 rfl (num_size (nbF_length _)) ?_
 simp only [Act.put, nrm]
 refine det_call _ _ _ [.agg ((nbF vz).map bval).toArray, .agg ((nbF vt).map bval).toArray] (.agg ((nbF (vz - vt)).map bval).toArray) (by rfl) rfl Tryd.call61 rfl (fun w hw => fsub_f w (F32.nb _) (F32.nb _)) ?_
 simp only [Act.put, nrm]
 refine det_call _ _ _ [.agg ((nbF (vm - vl)).map bval).toArray, .agg ((nbF (vz + vt)).map bval).toArray, .agg ((nbF (vm + vl)).map bval).toArray, .agg ((nbF (vz - vt)).map bval).toArray] (.agg (ptF (overE (vm - vl) (vz + vt) (vm + vl) (vz - vt))).toArray) (by rfl) rfl Tryd.call87 rfl (fun w hw => cover_f w (vm - vl) (vz + vt) (vm + vl) (vz - vt)) ?_
 simp only [Act.put, nrm]
 refine det_nil (end_set (k := 13) _ _ _ _ (A + 1 + 1) (ptF (overE (vm - vl) (vz + vt) (vm + vl) (vz - vt))) zq rfl (by kernel_rfl) (by kernel_rfl) (by kernel_rfl) rfl rfl rfl rfl H3.out ((ptF_length _).trans zq_length.symm) (ptF_size _) (ptF_one _) (fun w8 hb8 hg8 => ?_))
 simp only [Act.put]
 go_wp2_with fail
 exact bodyPost_ret (result_row (by rfl) _ (A + 1 + 1) _ _ _ (by rfl) hb8 Tryd.underlying47 rfl (ptF_size _)) rfl ⟨by rw [HQl.out, HQm.out, HQz.out, HQt.out, ← csum_eq]; rfl, ext_grown HE.out hg8 (by have := HAW.out; omega)⟩
set_option maxRecDepth 100000 in
set_option maxHeartbeats 4000000 in
theorem ctwice_f (w : World) (p : ES) : Calls Tryd.prog 47 #[.agg (ptF p).toArray] w fun e w' => e = .returned (.agg (ptF p.dbl).toArray) ∧ Below w.heap.size w w' := by
 have HB := Lib.hid (boxes2 w (ptF p) zq 47 47)
 go_enter Tryd.func47, Tryd.ntmps47
 go_upto_region 1 with (fail)
 obtain ⟨H1, H2, HE⟩ := HB.out
 change Code.wp _ _ _ _ (World.alloc (World.alloc w (.cells (ptF p).toArray 47)) (.cells zq.toArray 47))
 generalize (World.alloc (World.alloc w (.cells (ptF p).toArray 47)) (.cells zq.toArray 47)) = wa at *
 obtain ⟨A, hA⟩ : ∃ A, A = w.heap.size := ⟨_, rfl⟩
 have HAW : Hid (w.heap.size ≤ A) := Lib.hid (by omega)
 rw [← hA] at H1 H2 ⊢
 have H1 := Lib.hid H1
 have H2 := Lib.hid H2
 have HE : Hid (Ext w wa) := Lib.hid HE
 clear hA HB
 go_wp2_with fail
 refine wp_region_from 12 6 15 rfl (by kernel_rfl) (by kernel_rfl) (fun d v c a w h => by cases d <;> exact h) (by kernel_rfl) ?_
 refine det_fieldk _ _ A _ 0 0 (by rfl) rfl rfl (fun w => by go_simp) ?_
 simp only [Act.put, nrm]
 refine det_loadk _ _ A 0 ((nbF p.x).map bval) _ (by rfl) rfl rfl (fun w hw => ptF_x ((ext_blk H1.out hw).range)) Tryd.underlying23 rfl (num_size (nbF_length _)) ?_
 simp only [Act.put, nrm]
 refine det_call _ _ _ [.agg ((nbF p.x).map bval).toArray] (.agg ((nbF (p.x * p.x)).map bval).toArray) (by rfl) rfl Tryd.call86 rfl (fun w hw => csquare_f w p.x) ?_
 simp only [Act.put, nrm]
 refine det_fieldk _ _ A _ 0 32 (by rfl) rfl rfl (fun w => by go_simp) ?_
 simp only [Act.put, nrm]
 refine det_loadk _ _ A 32 ((nbF p.y).map bval) _ (by rfl) rfl rfl (fun w hw => ptF_y ((ext_blk H1.out hw).range) rfl) Tryd.underlying23 rfl (num_size (nbF_length _)) ?_
 simp only [Act.put, nrm]
 refine det_call _ _ _ [.agg ((nbF p.y).map bval).toArray] (.agg ((nbF (p.y * p.y)).map bval).toArray) (by rfl) rfl Tryd.call86 rfl (fun w hw => csquare_f w p.y) ?_
 simp only [Act.put, nrm]
 refine det_fieldk _ _ A _ 0 0 (by rfl) rfl rfl (fun w => by go_simp) ?_
 simp only [Act.put, nrm]
 refine det_loadk _ _ A 0 ((nbF p.x).map bval) _ (by rfl) rfl rfl (fun w hw => ptF_x ((ext_blk H1.out hw).range)) Tryd.underlying23 rfl (num_size (nbF_length _)) ?_
 simp only [Act.put, nrm]
 refine det_fieldk _ _ A _ 0 32 (by rfl) rfl rfl (fun w => by go_simp) ?_
 simp only [Act.put, nrm]
 refine det_loadk _ _ A 32 ((nbF p.y).map bval) _ (by rfl) rfl rfl (fun w hw => ptF_y ((ext_blk H1.out hw).range) rfl) Tryd.underlying23 rfl (num_size (nbF_length _)) ?_
 simp only [Act.put, nrm]
 refine det_call _ _ _ [.agg ((nbF p.x).map bval).toArray, .agg ((nbF p.y).map bval).toArray] (.agg ((nbF (p.x + p.y)).map bval).toArray) (by rfl) rfl Tryd.call59 rfl (fun w hw => fadd_f w (F32.nb _) (F32.nb _)) ?_
 simp only [Act.put, nrm]
 refine det_call _ _ _ [.agg ((nbF (p.x + p.y)).map bval).toArray] (.agg ((nbF ((p.x + p.y) * (p.x + p.y))).map bval).toArray) (by rfl) rfl Tryd.call86 rfl (fun w hw => csquare_f w (p.x + p.y)) ?_
 simp only [Act.put, nrm]
 refine det_nil (end_var3 (k := 12) 23 3 4 5 (.tmp 10) (.tmp 13) (.tmp 19) (ints .u8 (List.replicate 32 0)) ((nbF (p.x * p.x)).map bval) ((nbF (p.y * p.y)).map bval) ((nbF ((p.x + p.y) * (p.x + p.y))).map bval) rfl rfl rfl rfl rfl rfl (by kernel_rfl) rfl rfl rfl rfl rfl rfl rfl rfl rfl rfl rfl rfl (by decide) (by decide) (by decide) (fun w => by rw [Tryd.zeroValue23]; rfl) rfl rfl rfl rfl rfl rfl (by simp) (by simp) (by simp) (fun p q r => rfl) (fun p q r => rfl) (fun p q r => rfl) (by rw [List.length_map, nbF_length]; rfl) (by rw [List.length_map, nbF_length]; rfl) (by rw [List.length_map, nbF_length]; rfl) (num_size (nbF_length _)) (num_size (nbF_length _)) (num_size (nbF_length _)) (bval_one _) (bval_one _) (bval_one _) (fun px py pb wb hpq hpr hqr hp1 hp2 hp3 hb1 hb2 hb3 he => ?_))
 try simp only [Act.put, nrm]
 have H1 := Lib.hid (ext_blk H1.out he)
 have H2 := Lib.hid (ext_blk H2.out he)
 have HE := Lib.hid (HE.out.trans he)
 have HPx := Lib.hid hp1
 have HPy := Lib.hid hp2
 have HPb := Lib.hid hp3
 clear he hpq hpr hqr hp1 hp2 hp3
 obtain ⟨vx, hq⟩ : ∃ kk, kk = (p.x * p.x) := ⟨_, rfl⟩
 rw [← hq] at hb1
 have HQx := Lib.hid hq
 clear hq
 have HVx := Lib.hid hb1
 obtain ⟨vy, hq⟩ : ∃ kk, kk = (p.y * p.y) := ⟨_, rfl⟩
 rw [← hq] at hb2
 have HQy := Lib.hid hq
 clear hq
 have HVy := Lib.hid hb2
 obtain ⟨vb, hq⟩ : ∃ kk, kk = ((p.x + p.y) * (p.x + p.y)) := ⟨_, rfl⟩
 rw [← hq] at hb3
 have HQb := Lib.hid hq
 clear hq
 have HVb := Lib.hid hb3
 clear hb1 hb2 hb3
 go_wp2_with fail
 refine wp_region_from 6 4 8 rfl (by kernel_rfl) (by kernel_rfl) (fun d v c a w h => by cases d <;> exact h) (by kernel_rfl) ?_
 refine det_loadk _ _ py 0 ((nbF vy).map bval) _ (by rfl) rfl rfl (fun w hw => (ext_blk HVy.out hw).range) Tryd.underlying23 rfl (num_size (nbF_length _)) ?_
 simp only [Act.put, nrm]
 refine det_loadk _ _ px 0 ((nbF vx).map bval) _ (by rfl) rfl rfl (fun w hw => (ext_blk HVx.out hw).range) Tryd.underlying23 rfl (num_size (nbF_length _)) ?_
 simp only [Act.put, nrm]
 refine det_call _ _ _ [.agg ((nbF vy).map bval).toArray, .agg ((nbF vx).map bval).toArray] (.agg ((nbF (vy + vx)).map bval).toArray) (by rfl) rfl Tryd.call59 rfl (fun w hw => fadd_f w (F32.nb _) (F32.nb _)) ?_
 simp only [Act.put, nrm]
 refine det_loadk _ _ py 0 ((nbF vy).map bval) _ (by rfl) rfl rfl (fun w hw => (ext_blk HVy.out hw).range) Tryd.underlying23 rfl (num_size (nbF_length _)) ?_
 simp only [Act.put, nrm]
 refine det_loadk _ _ px 0 ((nbF vx).map bval) _ (by rfl) rfl rfl (fun w hw => (ext_blk HVx.out hw).range) Tryd.underlying23 rfl (num_size (nbF_length _)) ?_
 simp only [Act.put, nrm]
 refine det_call _ _ _ [.agg ((nbF vy).map bval).toArray, .agg ((nbF vx).map bval).toArray] (.agg ((nbF (vy - vx)).map bval).toArray) (by rfl) rfl Tryd.call61 rfl (fun w hw => fsub_f w (F32.nb _) (F32.nb _)) ?_
 simp only [Act.put, nrm]
 refine det_nil (end_var2 (k := 6) 23 6 7 (.tmp 22) (.tmp 25) (ints .u8 (List.replicate 32 0)) ((nbF (vy + vx)).map bval) ((nbF (vy - vx)).map bval) rfl rfl rfl rfl (by kernel_rfl) (by kernel_rfl) (by kernel_rfl) (by kernel_rfl) (by kernel_rfl) (by kernel_rfl) (by kernel_rfl) (by kernel_rfl) (by kernel_rfl) (by kernel_rfl) rfl rfl rfl rfl rfl rfl rfl rfl (by decide) (fun w => by rw [Tryd.zeroValue23]; rfl) rfl rfl rfl rfl (by simp) (by simp) (fun p q => rfl) (fun p q => rfl) (by rw [List.length_map, nbF_length]; rfl) (by rw [List.length_map, nbF_length]; rfl) (num_size (nbF_length _)) (num_size (nbF_length _)) (bval_one _) (bval_one _) (fun pm pl wl hpq hp1 hp2 hb1 hb2 he => ?_))
 try simp only [Act.put, nrm]
 have H1 := Lib.hid (ext_blk H1.out he)
 have H2 := Lib.hid (ext_blk H2.out he)
 have HVx := Lib.hid (ext_blk HVx.out he)
 have HVy := Lib.hid (ext_blk HVy.out he)
 have HVb := Lib.hid (ext_blk HVb.out he)
 have HE := Lib.hid (HE.out.trans he)
 have HPQ := Lib.hid hpq
 have HPm := Lib.hid hp1
 have HPl := Lib.hid hp2
 clear he hpq hp1 hp2
 obtain ⟨vm, hq⟩ : ∃ kk, kk = (vy + vx) := ⟨_, rfl⟩
 rw [← hq] at hb1
 have HQm := Lib.hid hq
 clear hq
 have HVm := Lib.hid hb1
 obtain ⟨vl, hq⟩ : ∃ kk, kk = (vy - vx) := ⟨_, rfl⟩
 rw [← hq] at hb2
 have HQl := Lib.hid hq
 clear hq
 have HVl := Lib.hid hb2
 clear hb1 hb2
 go_wp2_with fail
 refine wp_region_from 12 1 12 rfl (by kernel_rfl) (by kernel_rfl) (fun d v c a w h => by cases d <;> exact h) (by kernel_rfl) ?_
 refine det_loadk _ _ pb 0 ((nbF vb).map bval) _ (by rfl) rfl rfl (fun w hw => (ext_blk HVb.out hw).range) Tryd.underlying23 rfl (num_size (nbF_length _)) ?_
 simp only [Act.put, nrm]
 refine det_loadk _ _ pm 0 ((nbF vm).map bval) _ (by rfl) rfl rfl (fun w hw => (ext_blk HVm.out hw).range) Tryd.underlying23 rfl (num_size (nbF_length _)) ?_
 simp only [Act.put, nrm]
 refine det_call _ _ _ [.agg ((nbF vb).map bval).toArray, .agg ((nbF vm).map bval).toArray] (.agg ((nbF (vb - vm)).map bval).toArray) (by rfl) rfl Tryd.call61 rfl (fun w hw => fsub_f w (F32.nb _) (F32.nb _)) ?_
 simp only [Act.put, nrm]
 refine det_loadk _ _ pl 0 ((nbF vl).map bval) _ (by rfl) rfl rfl (fun w hw => (ext_blk HVl.out hw).range) Tryd.underlying23 rfl (num_size (nbF_length _)) ?_
 simp only [Act.put, nrm]
 refine det_loadk _ _ pm 0 ((nbF vm).map bval) _ (by rfl) rfl rfl (fun w hw => (ext_blk HVm.out hw).range) Tryd.underlying23 rfl (num_size (nbF_length _)) ?_
 simp only [Act.put, nrm]
 refine det_fieldk _ _ A _ 0 64 (by rfl) rfl rfl (fun w => by go_simp) ?_
 simp only [Act.put, nrm]
 refine det_loadk _ _ A 64 ((nbF p.z).map bval) _ (by rfl) rfl rfl (fun w hw => ptF_z ((ext_blk H1.out hw).range) rfl) Tryd.underlying23 rfl (num_size (nbF_length _)) ?_
 simp only [Act.put, nrm]
 refine det_call _ _ _ [.agg ((nbF p.z).map bval).toArray] (.agg ((nbF (p.z * p.z)).map bval).toArray) (by rfl) rfl Tryd.call86 rfl (fun w hw => csquare_f w p.z) ?_
 simp only [Act.put, nrm]
 refine det_call _ _ _ [.agg ((nbF (p.z * p.z)).map bval).toArray] (.agg ((nbF ((p.z * p.z) + (p.z * p.z))).map bval).toArray) (by rfl) rfl Tryd.call88 rfl (fun w hw => cdouble_f w (p.z * p.z)) ?_
 simp only [Act.put, nrm]
 refine det_loadk _ _ pl 0 ((nbF vl).map bval) _ (by rfl) rfl rfl (fun w hw => (ext_blk HVl.out hw).range) Tryd.underlying23 rfl (num_size (nbF_length _)) ?_
 simp only [Act.put, nrm]
 refine det_call _ _ _ [.agg ((nbF ((p.z * p.z) + (p.z * p.z))).map bval).toArray, .agg ((nbF vl).map bval).toArray] (.agg ((nbF (((p.z * p.z) + (p.z * p.z)) - vl)).map bval).toArray) (by rfl) rfl Tryd.call61 rfl (fun w hw => fsub_f w (F32.nb _) (F32.nb _)) ?_
 simp only [Act.put, nrm]
 refine det_call _ _ _ [.agg ((nbF (vb - vm)).map bval).toArray, .agg ((nbF vl).map bval).toArray, .agg ((nbF vm).map bval).toArray, .agg ((nbF (((p.z * p.z) + (p.z * p.z)) - vl)).map bval).toArray] (.agg (ptF (overE (vb - vm) vl vm (((p.z * p.z) + (p.z * p.z)) - vl))).toArray) (by rfl) rfl Tryd.call87 rfl (fun w hw => cover_f w (vb - vm) vl vm (((p.z * p.z) + (p.z * p.z)) - vl)) ?_
 simp only [Act.put, nrm]
 refine det_nil (end_set (k := 12) _ _ _ _ (A + 1) (ptF (overE (vb - vm) vl vm (((p.z * p.z) + (p.z * p.z)) - vl))) zq rfl (by kernel_rfl) (by kernel_rfl) (by kernel_rfl) rfl rfl rfl rfl H2.out ((ptF_length _).trans zq_length.symm) (ptF_size _) (ptF_one _) (fun w8 hb8 hg8 => ?_))
 simp only [Act.put]
 go_wp2_with fail
 exact bodyPost_ret (result_row (by rfl) _ (A + 1) _ _ _ (by rfl) hb8 Tryd.underlying47 rfl (ptF_size _)) rfl ⟨by rw [HQm.out, HQl.out, HQx.out, HQy.out, HQb.out]; rfl, ext_grown HE.out hg8 (by have := HAW.out; omega)⟩
set_option maxRecDepth 100000 in
set_option maxHeartbeats 4000000 in
theorem cpick_f (w : World) (s : Bool) (p q : ES) : Calls Tryd.prog 48 #[.agg (ptF p).toArray, .agg (ptF q).toArray, .bool s] w fun e w' => e = .returned (.agg (ptF (ES.pk s p q)).toArray) ∧ Below w.heap.size w w' := by
 have HB := Lib.hid (boxes3 w (ptF p) (ptF q) zq 47 47 47)
 go_enter Tryd.func48, Tryd.ntmps48
 go_upto_region 1 with (fail)
 obtain ⟨H1, H2, H3, HE⟩ := HB.out
 change Code.wp _ _ _ _ (World.alloc (World.alloc (World.alloc w (.cells (ptF p).toArray 47)) (.cells (ptF q).toArray 47)) (.cells zq.toArray 47))
 generalize (World.alloc (World.alloc (World.alloc w (.cells (ptF p).toArray 47)) (.cells (ptF q).toArray 47)) (.cells zq.toArray 47)) = wa at *
 obtain ⟨A, hA⟩ : ∃ A, A = w.heap.size := ⟨_, rfl⟩
 have HAW : Hid (w.heap.size ≤ A) := Lib.hid (by omega)
 rw [← hA] at H1 H2 H3 ⊢
 have H1 := Lib.hid H1
 have H2 := Lib.hid H2
 have H3 := Lib.hid H3
 have HE : Hid (Ext w wa) := Lib.hid HE
 clear hA HB
 go_wp2_with fail
 refine wp_region_from 25 1 25 rfl (by kernel_rfl) (by kernel_rfl) (fun d v c a w h => by cases d <;> exact h) (by kernel_rfl) ?_
 refine det_fieldk _ _ A _ 0 0 (by rfl) rfl rfl (fun w => by go_simp) ?_
 simp only [Act.put, nrm]
 refine det_loadk _ _ A 0 ((nbF p.x).map bval) _ (by rfl) rfl rfl (fun w hw => ptF_x ((ext_blk H1.out hw).range)) Tryd.underlying23 rfl (num_size (nbF_length _)) ?_
 simp only [Act.put, nrm]
 refine det_fieldk _ _ (A + 1) _ 0 0 (by rfl) rfl rfl (fun w => by go_simp) ?_
 simp only [Act.put, nrm]
 refine det_loadk _ _ (A + 1) 0 ((nbF q.x).map bval) _ (by rfl) rfl rfl (fun w hw => ptF_x ((ext_blk H2.out hw).range)) Tryd.underlying23 rfl (num_size (nbF_length _)) ?_
 simp only [Act.put, nrm]
 refine det_move _ (.bool s) (by rfl) rfl rfl ?_
 simp only [Act.put, nrm]
 refine det_call _ _ _ [.agg ((nbF p.x).map bval).toArray, .agg ((nbF q.x).map bval).toArray, .bool s] (.agg ((nbF (pkF s p.x q.x)).map bval).toArray) (by rfl) rfl Tryd.call62 rfl (fun w hw => cpickn_f w s p.x q.x) ?_
 simp only [Act.put, nrm]
 refine det_fieldk _ _ A _ 0 32 (by rfl) rfl rfl (fun w => by go_simp) ?_
 simp only [Act.put, nrm]
 refine det_loadk _ _ A 32 ((nbF p.y).map bval) _ (by rfl) rfl rfl (fun w hw => ptF_y ((ext_blk H1.out hw).range) rfl) Tryd.underlying23 rfl (num_size (nbF_length _)) ?_
 simp only [Act.put, nrm]
 refine det_fieldk _ _ (A + 1) _ 0 32 (by rfl) rfl rfl (fun w => by go_simp) ?_
 simp only [Act.put, nrm]
 refine det_loadk _ _ (A + 1) 32 ((nbF q.y).map bval) _ (by rfl) rfl rfl (fun w hw => ptF_y ((ext_blk H2.out hw).range) rfl) Tryd.underlying23 rfl (num_size (nbF_length _)) ?_
 simp only [Act.put, nrm]
 refine det_move _ (.bool s) (by rfl) rfl rfl ?_
 simp only [Act.put, nrm]
 refine det_call _ _ _ [.agg ((nbF p.y).map bval).toArray, .agg ((nbF q.y).map bval).toArray, .bool s] (.agg ((nbF (pkF s p.y q.y)).map bval).toArray) (by rfl) rfl Tryd.call62 rfl (fun w hw => cpickn_f w s p.y q.y) ?_
 simp only [Act.put, nrm]
 refine det_fieldk _ _ A _ 0 64 (by rfl) rfl rfl (fun w => by go_simp) ?_
 simp only [Act.put, nrm]
 refine det_loadk _ _ A 64 ((nbF p.z).map bval) _ (by rfl) rfl rfl (fun w hw => ptF_z ((ext_blk H1.out hw).range) rfl) Tryd.underlying23 rfl (num_size (nbF_length _)) ?_
 simp only [Act.put, nrm]
 refine det_fieldk _ _ (A + 1) _ 0 64 (by rfl) rfl rfl (fun w => by go_simp) ?_
 simp only [Act.put, nrm]
 refine det_loadk _ _ (A + 1) 64 ((nbF q.z).map bval) _ (by rfl) rfl rfl (fun w hw => ptF_z ((ext_blk H2.out hw).range) rfl) Tryd.underlying23 rfl (num_size (nbF_length _)) ?_
 simp only [Act.put, nrm]
 refine det_move _ (.bool s) (by rfl) rfl rfl ?_
 simp only [Act.put, nrm]
 refine det_call _ _ _ [.agg ((nbF p.z).map bval).toArray, .agg ((nbF q.z).map bval).toArray, .bool s] (.agg ((nbF (pkF s p.z q.z)).map bval).toArray) (by rfl) rfl Tryd.call62 rfl (fun w hw => cpickn_f w s p.z q.z) ?_
 simp only [Act.put, nrm]
 refine det_fieldk _ _ A _ 0 96 (by rfl) rfl rfl (fun w => by go_simp) ?_
 simp only [Act.put, nrm]
 refine det_loadk _ _ A 96 ((nbF p.t).map bval) _ (by rfl) rfl rfl (fun w hw => ptF_t ((ext_blk H1.out hw).range) rfl) Tryd.underlying23 rfl (num_size (nbF_length _)) ?_
 simp only [Act.put, nrm]
 refine det_fieldk _ _ (A + 1) _ 0 96 (by rfl) rfl rfl (fun w => by go_simp) ?_
 simp only [Act.put, nrm]
 refine det_loadk _ _ (A + 1) 96 ((nbF q.t).map bval) _ (by rfl) rfl rfl (fun w hw => ptF_t ((ext_blk H2.out hw).range) rfl) Tryd.underlying23 rfl (num_size (nbF_length _)) ?_
 simp only [Act.put, nrm]
 refine det_move _ (.bool s) (by rfl) rfl rfl ?_
 simp only [Act.put, nrm]
 refine det_call _ _ _ [.agg ((nbF p.t).map bval).toArray, .agg ((nbF q.t).map bval).toArray, .bool s] (.agg ((nbF (pkF s p.t q.t)).map bval).toArray) (by rfl) rfl Tryd.call62 rfl (fun w hw => cpickn_f w s p.t q.t) ?_
 simp only [Act.put, nrm]
 refine det_build _ _ #[(0, .agg ((nbF (pkF s p.x q.x)).map bval).toArray), (1, .agg ((nbF (pkF s p.y q.y)).map bval).toArray), (2, .agg ((nbF (pkF s p.z q.z)).map bval).toArray), (3, .agg ((nbF (pkF s p.t q.t)).map bval).toArray)] (.agg (ptF ⟨pkF s p.x q.x, pkF s p.y q.y, pkF s p.z q.z, pkF s p.t q.t⟩).toArray) (by rfl) rfl (by simp [Act.eval]) (fun w => build_ptF ⟨pkF s p.x q.x, pkF s p.y q.y, pkF s p.z q.z, pkF s p.t q.t⟩ w) ?_
 simp only [Act.put, nrm]
 refine det_nil (end_set (k := 25) _ _ _ _ (A + 1 + 1) (ptF ⟨pkF s p.x q.x, pkF s p.y q.y, pkF s p.z q.z, pkF s p.t q.t⟩) zq rfl (by kernel_rfl) (by kernel_rfl) (by kernel_rfl) rfl rfl rfl rfl H3.out ((ptF_length _).trans zq_length.symm) (ptF_size _) (ptF_one _) (fun w8 hb8 hg8 => ?_))
 simp only [Act.put]
 go_wp2_with fail
 exact bodyPost_ret (result_row (by rfl) _ (A + 1 + 1) _ _ _ (by rfl) hb8 Tryd.underlying47 rfl (ptF_size _)) rfl ⟨rfl, ext_grown HE.out hg8 (by have := HAW.out; omega)⟩
set_option maxRecDepth 100000 in
set_option maxHeartbeats 4000000 in
theorem cneg_f (w : World) (p : ES) : Calls Tryd.prog 38 #[.agg (ptF p).toArray] w fun e w' => e = .returned (.agg (ptF p.neg).toArray) ∧ Below w.heap.size w w' := by
 have HB := Lib.hid (boxes2 w (ptF p) zq 47 47)
 go_enter Tryd.func38, Tryd.ntmps38
 go_upto_region 1 with (fail)
 obtain ⟨H1, H2, HE⟩ := HB.out
 change Code.wp _ _ _ _ (World.alloc (World.alloc w (.cells (ptF p).toArray 47)) (.cells zq.toArray 47))
 generalize (World.alloc (World.alloc w (.cells (ptF p).toArray 47)) (.cells zq.toArray 47)) = wa at *
 obtain ⟨A, hA⟩ : ∃ A, A = w.heap.size := ⟨_, rfl⟩
 have HAW : Hid (w.heap.size ≤ A) := Lib.hid (by omega)
 rw [← hA] at H1 H2 ⊢
 have H1 := Lib.hid H1
 have H2 := Lib.hid H2
 have HE : Hid (Ext w wa) := Lib.hid HE
 clear hA HB
 go_wp2_with fail
 refine wp_region_from 13 1 13 rfl (by kernel_rfl) (by kernel_rfl) (fun d v c a w h => by cases d <;> exact h) (by kernel_rfl) ?_
 refine det_build _ _ #[] (.agg ((nbF 0).map bval).toArray) (by rfl) rfl (by simp [Act.eval]) (fun w => build_nbz w) ?_
 simp only [Act.put, nrm]
 refine det_fieldk _ _ A _ 0 0 (by rfl) rfl rfl (fun w => by go_simp) ?_
 simp only [Act.put, nrm]
 refine det_loadk _ _ A 0 ((nbF p.x).map bval) _ (by rfl) rfl rfl (fun w hw => ptF_x ((ext_blk H1.out hw).range)) Tryd.underlying23 rfl (num_size (nbF_length _)) ?_
 simp only [Act.put, nrm]
 refine det_call _ _ _ [.agg ((nbF 0).map bval).toArray, .agg ((nbF p.x).map bval).toArray] (.agg ((nbF (0 - p.x)).map bval).toArray) (by rfl) rfl Tryd.call61 rfl (fun w hw => fsub_f w (F32.nb _) (F32.nb _)) ?_
 simp only [Act.put, nrm]
 refine det_fieldk _ _ A _ 0 32 (by rfl) rfl rfl (fun w => by go_simp) ?_
 simp only [Act.put, nrm]
 refine det_loadk _ _ A 32 ((nbF p.y).map bval) _ (by rfl) rfl rfl (fun w hw => ptF_y ((ext_blk H1.out hw).range) rfl) Tryd.underlying23 rfl (num_size (nbF_length _)) ?_
 simp only [Act.put, nrm]
 refine det_fieldk _ _ A _ 0 64 (by rfl) rfl rfl (fun w => by go_simp) ?_
 simp only [Act.put, nrm]
 refine det_loadk _ _ A 64 ((nbF p.z).map bval) _ (by rfl) rfl rfl (fun w hw => ptF_z ((ext_blk H1.out hw).range) rfl) Tryd.underlying23 rfl (num_size (nbF_length _)) ?_
 simp only [Act.put, nrm]
 refine det_build _ _ #[] (.agg ((nbF 0).map bval).toArray) (by rfl) rfl (by simp [Act.eval]) (fun w => build_nbz w) ?_
 simp only [Act.put, nrm]
 refine det_fieldk _ _ A _ 0 96 (by rfl) rfl rfl (fun w => by go_simp) ?_
 simp only [Act.put, nrm]
 refine det_loadk _ _ A 96 ((nbF p.t).map bval) _ (by rfl) rfl rfl (fun w hw => ptF_t ((ext_blk H1.out hw).range) rfl) Tryd.underlying23 rfl (num_size (nbF_length _)) ?_
 simp only [Act.put, nrm]
 refine det_call _ _ _ [.agg ((nbF 0).map bval).toArray, .agg ((nbF p.t).map bval).toArray] (.agg ((nbF (0 - p.t)).map bval).toArray) (by rfl) rfl Tryd.call61 rfl (fun w hw => fsub_f w (F32.nb _) (F32.nb _)) ?_
 simp only [Act.put, nrm]
 refine det_build _ _ #[(0, .agg ((nbF (0 - p.x)).map bval).toArray), (1, .agg ((nbF p.y).map bval).toArray), (2, .agg ((nbF p.z).map bval).toArray), (3, .agg ((nbF (0 - p.t)).map bval).toArray)] (.agg (ptF ⟨0 - p.x, p.y, p.z, 0 - p.t⟩).toArray) (by rfl) rfl (by simp [Act.eval]) (fun w => build_ptF ⟨0 - p.x, p.y, p.z, 0 - p.t⟩ w) ?_
 simp only [Act.put, nrm]
 refine det_nil (end_set (k := 13) _ _ _ _ (A + 1) (ptF ⟨0 - p.x, p.y, p.z, 0 - p.t⟩) zq rfl (by kernel_rfl) (by kernel_rfl) (by kernel_rfl) rfl rfl rfl rfl H2.out ((ptF_length _).trans zq_length.symm) (ptF_size _) (ptF_one _) (fun w8 hb8 hg8 => ?_))
 simp only [Act.put]
 go_wp2_with fail
 exact bodyPost_ret (result_row (by rfl) _ (A + 1) _ _ _ (by rfl) hb8 Tryd.underlying47 rfl (ptF_size _)) rfl ⟨rfl, ext_grown HE.out hg8 (by have := HAW.out; omega)⟩
set_option maxRecDepth 100000 in
set_option maxHeartbeats 4000000 in
theorem czero_f (w : World) : Calls Tryd.prog 46 #[] w fun e w' => e = .returned (.agg (ptF esZero).toArray) ∧ Below w.heap.size w w' := by
 have HB := Lib.hid (boxes_one w zq 47)
 go_enter Tryd.func46, Tryd.ntmps46
 go_upto_region 1 with (fail)
 obtain ⟨H1, HE⟩ := HB.out
 change Code.wp _ _ _ _ (w.alloc (.cells zq.toArray 47))
 generalize w.alloc (.cells zq.toArray 47) = wa at *
 obtain ⟨A, hA⟩ : ∃ A, A = w.heap.size := ⟨_, rfl⟩
 have HAW : Hid (w.heap.size ≤ A) := Lib.hid (by omega)
 rw [← hA] at H1 ⊢
 have H1 := Lib.hid H1
 have HE : Hid (Ext w wa) := Lib.hid HE
 clear hA HB
 have HB1 := Lib.hid (build_nbo)
 have HB2 := Lib.hid (build_esz)
 generalize nbF 1 = one at *
 have HL : Hid ((ptF esZero).length = zq.length) := Lib.hid ((ptF_length _).trans zq_length.symm)
 go_wp2_with (first | (refine wpList_build rfl 23 #[(0, _)] rfl #[(0, .int .u8 1)] (by simp [Act.eval, Act.put]) (.agg (one.map bval).toArray) (HB1.out _) ?_) | (refine wpList_build rfl 47 #[(1, _), (2, _)] rfl #[(1, .agg (one.map bval).toArray), (2, .agg (one.map bval).toArray)] (by simp [Act.eval, Act.put]) (.agg (ptF esZero).toArray) (HB2.out _) ?_) | (refine wpList_store_blk rfl _ _ _ rfl A (ptF esZero) rfl rfl _ _ H1.out HL.out (ptF_size _) (ptF_one _) ?_; intro w8 hb8 hg8))
 exact bodyPost_ret (result_row (by rfl) _ A _ _ _ (by rfl) hb8 Tryd.underlying47 rfl (ptF_size _)) rfl ⟨rfl, ext_grown HE.out hg8 (by have := HAW.out; omega)⟩
end Go.Proofs.YtckggbkoabmjiaaDoor
