/- Texts that belong together, one behind the other. -/
import Derived.WalkKit
import Derived.WalkSpells
import Derived.WalkLawsBesides
import Derived.Lib.Hide
import Derived.Deep.QuietTactic
import Derived.BigQuiet
import Derived.Deep.RegionHeld3
import Derived.Deep.AppendLies
import Derived.OneCell
import Derived.Deep.CutRange
import Derived.Laws.ResultCell
import Derived.Deep.MidRow
import Derived.Deep.Quiet
import Derived.OrdersHeld
import Derived.Deep.RegionHeld
import Derived.ChangeKeysEq
import Derived.KernelRfl
import Derived.Laws.Tables
import Derived.Great.BuildSlice
import Derived.Deep.RegionWith
import Derived.StillTailTactics
import Derived.ScopeJumps
import Derived.Control
import Derived.ProofKit
import Derived.Laws.CopyOwn
import Derived.Laws.MakeOwn
import Derived.Laws.Slices
import Derived.Test.YtckggbkoabmjiaaDoorQz01
import Derived.Test.YtckggbkoabmjiaaDoorQz02
import Derived.Test.YtckggbkoabmjiaaDoorQz03
import Derived.Test.YtckggbkoabmjiaaDoorQz12
import Derived.Test.YtckggbkoabmjiaaDoorQz16
import Derived.Test.YtckggbkoabmjiaaDoorQz17
import Derived.Test.YtckggbkoabmjiaaDoorQz20
namespace Go.Proofs.YtckggbkoabmjiaaDoor
set_option linter.unusedVariables false
set_option linter.unusedSimpArgs false
open Go.RowKit
section
section
variable {P : Program} {w w' : World} {v : Value} {vs : List Value}
theorem Row1.grown {row : Option Nat} (h : Row1 w v vs) (hg : w.grownBy w' row) (hne : ∀ k, row = some k → v.ownBlock ≠ some k) : Row1 w' v vs :=
 h.same hg.size fun p hp hlt => hg.cell_far p hlt fun e => hne p.block e.symm hp
theorem Row1.own_ne {base : Nat} {e : TypeId} {size n : Nat} {xs : List Value} {x : Value} (h : w.ownsRow base e size x n xs) {k : Nat} (hk : k < base) : x.ownBlock ≠ some k := by
 intro e
 have := (h.lt k e).1
 omega
end
end
set_option maxRecDepth 100000 in
set_option maxHeartbeats 4000000 in
theorem rclamped_any (kb : List UInt8) (w : World) (hk : kb.length = 32) : Calls Tryd.prog 52 #[.agg (kb.map bval).toArray] w fun e w' => e = .returned (.agg ((clampB kb).map bval).toArray) ∧ Below w.heap.size w w' := by
 have HB := Lib.hid (boxes2 w (kb.map bval) (ints .u8 (List.replicate 32 0)) 23 23)
 have HKL := Lib.hid hk
 clear hk
 go_enter Tryd.func52, Tryd.ntmps52
 go_upto_region 1 with (fail)
 obtain ⟨H1, H2, HE⟩ := HB.out
 change Code.wp _ _ _ _ ((w.alloc (.cells (kb.map bval).toArray 23)).alloc (.cells (ints .u8 (List.replicate 32 0)).toArray 23))
 generalize (w.alloc (.cells (kb.map bval).toArray 23)).alloc (.cells (ints .u8 (List.replicate 32 0)).toArray 23) = wa at *
 obtain ⟨A, hA⟩ : ∃ A, A = w.heap.size := ⟨_, rfl⟩
 have HAW : Hid (w.heap.size ≤ A) := Lib.hid (by omega)
 rw [← hA] at H1 H2 ⊢
 have H1 := Lib.hid H1
 have H2 := Lib.hid H2
 have HE : Hid (Ext w wa) := Lib.hid HE
 clear hA HB
 obtain ⟨k1, hk1⟩ : ∃ k1, k1 = kb.set 0 (kb.getD 0 0 &&& 248) := ⟨_, rfl⟩
 have HX1 : Hid ((kb.map bval).set 0 (.int .u8 (bits .and .u8 ((kb.getD 0 0).toNat : Int) 248)) = k1.map bval) := Lib.hid (by
  have e1 := u8_and (kb.getD 0 0) 248
  rw [show (248 : Int) = ((248 : UInt8).toNat : Int) from rfl, e1, u8_set, hk1])
 have HL1 : Hid (k1.length = 32) := Lib.hid (by rw [hk1, List.length_set, HKL.out])
 have HX2 : Hid ((k1.map bval).set 31 (.int .u8 (bits .or .u8 (bits .and .u8 ((k1.getD 31 0).toNat : Int) 127) 64)) = (clampB kb).map bval) := Lib.hid (by
  have e1 := u8_and (k1.getD 31 0) 127
  have e2 := u8_or (k1.getD 31 0 &&& 127) 64
  rw [show (127 : Int) = ((127 : UInt8).toNat : Int) from rfl, show (64 : Int) = ((64 : UInt8).toNat : Int) from rfl, e1, e2, u8_set, hk1]
  rfl)
 have HCL := Lib.hid (clampB_length HKL.out)
 obtain ⟨cl, hcl⟩ : ∃ cl, cl = clampB kb := ⟨_, rfl⟩
 rw [← hcl] at HCL HX2
 have HCE := Lib.hid hcl
 clear hcl
 clear hk1
 have c1 := H1.out.cell 0
 rw [bval_get (by rw [HKL.out]; omega)] at c1
 have f1 := H1.out.free 0
 generalize ((kb.getD 0 0).toNat : Int) = q1 at *
 go_upto_region 2 with (fail)
 have HM := Lib.hid (H1.out.set 0 (.int .u8 (bits .and .u8 q1 248)))
 rw [HX1.out] at HM
 have H2 := Lib.hid (H2.out.far (a := ⟨A, 0, none⟩) (by simp) (.int .u8 (bits .and .u8 q1 248)))
 have HE := Lib.hid (Below.setCell HE.out (p := ⟨A, 0, none⟩) (by have := HAW.out; simp; omega) (.int .u8 (bits .and .u8 q1 248)))
 generalize bits .and .u8 q1 248 = v1 at *
 generalize wa.setCell ⟨A, 0, none⟩ (.int .u8 v1) = wb at *
 clear c1 f1 HX1 H1
 have c1 := HM.out.cell 31
 rw [bval_get (by rw [HL1.out]; omega)] at c1
 have f1 := HM.out.free 31
 generalize ((k1.getD 31 0).toNat : Int) = q2 at *
 go_upto_region 3 with (fail)
 have HM2 := Lib.hid (HM.out.set 31 (.int .u8 (bits .or .u8 (bits .and .u8 q2 127) 64)))
 rw [HX2.out] at HM2
 have H2 := Lib.hid (H2.out.far (a := ⟨A, 31, none⟩) (by simp) (.int .u8 (bits .or .u8 (bits .and .u8 q2 127) 64)))
 have HE := Lib.hid (Below.setCell HE.out (p := ⟨A, 31, none⟩) (by have := HAW.out; simp; omega) (.int .u8 (bits .or .u8 (bits .and .u8 q2 127) 64)))
 generalize bits .or .u8 (bits .and .u8 q2 127) 64 = v2 at *
 generalize wb.setCell ⟨A, 31, none⟩ (.int .u8 v2) = wc at *
 clear c1 f1 HX2 HM
 have HE : Hid (Ext w wc) := Lib.hid HE.out
 have HI : Hid ((Tryd.prog.info? 23).map (·.size) = some (cl.map bval).length) := Lib.hid (num_size HCL.out)
 have HLo : Hid ((cl.map bval).length = (ints .u8 (List.replicate 32 0)).length) := Lib.hid (by rw [List.length_map, HCL.out, ints_length, List.length_replicate])
 go_wp2_with (first | (refine wpList_load_blk rfl _ _ rfl A rfl _ _ _ _ HM2.out Tryd.underlying23 HI.out ?_) | (refine wpList_store_blk rfl _ _ _ rfl (A + 1) (cl.map bval) rfl rfl _ _ H2.out HLo.out HI.out (bval_one _) ?_; intro w5 hb5 hg5))
 refine bodyPost_ret (result_blk rfl _ (A + 1) _ _ _ _ rfl hb5 Tryd.underlying23 HI.out) rfl ?_
 exact ⟨by rw [HCE.out], ext_grown HE.out hg5 (by have := HAW.out; omega)⟩
theorem u8_one : (Tryd.prog.info? 5).map (·.size) = some 1 := by kernel_rfl
set_option maxRecDepth 100000 in
set_option maxHeartbeats 8000000 in
theorem rparts_f (s : List UInt8) (w : World) (hs : s.length = 32) (hK : GlobK5 w) : Calls Tryd.prog 24 #[.agg (s.map bval).toArray] w fun e w' => ∃ x, e = .returned (.tuple #[.agg ((secA s).map bval).toArray, x]) ∧ Row1 w' x ((secH s).map bval) ∧ Below w.heap.size w w' := by
 obtain ⟨i0, hi, hz0, hz1, hz2⟩ := info_parts Tryd.info5
 have HI0 := Lib.hid hi
 have HZ0 := Lib.hid hz0
 have HZ1 := Lib.hid hz1
 have HZ2 := Lib.hid hz2
 have HSL := Lib.hid hs
 have HK := Lib.hid hK
 have HB := Lib.hid (boxes2 w (s.map bval) (ints .u8 (List.replicate 32 0)) 23 23)
 clear hi hz0 hz1 hz2 hs hK
 go_enter Tryd.func24, Tryd.ntmps24
 go_upto_region 1 with (fail)
 obtain ⟨H1, H2, HE⟩ := HB.out
 change Code.wp _ _ _ _ ((w.alloc (.cells (s.map bval).toArray 23)).alloc (.cells (ints .u8 (List.replicate 32 0)).toArray 23))
 generalize (w.alloc (.cells (s.map bval).toArray 23)).alloc (.cells (ints .u8 (List.replicate 32 0)).toArray 23) = wa at *
 obtain ⟨A, hA⟩ : ∃ A, A = w.heap.size := ⟨_, rfl⟩
 have HAW : Hid (w.heap.size ≤ A) := Lib.hid (by omega)
 rw [← hA] at H1 H2 ⊢
 have HSR := Lib.hid (blk_row (n := 32) H1 (by rw [List.length_map, HSL.out]) (by unfold maxLen; omega))
 have HR := Lib.hid H2
 have HE : Hid (Ext w wa) := Lib.hid HE
 clear hA HB H1 H2
 go_wp2_with fail
 refine (rShb_any _ s wa HSR.out (by rw [HSL.out]; omega) (HK.out.ext HE.out)).mono ?_
 rintro e wb ⟨rfl, hb⟩
 have HR := Lib.hid (ext_blk HR.out hb)
 have HE := Lib.hid (HE.out.trans hb)
 clear hb HSR
 have HHL := Lib.hid (sha512_length s)
 have HSA : Hid (secA s = clampB ((sha512 s).take 32)) := Lib.hid rfl
 have HSH : Hid (secH s = (sha512 s).drop 32) := Lib.hid rfl
 generalize sha512 s = h at *
 have HZ := Lib.hid (Blk.made wb (ints .u8 (List.replicate 64 0)) 30)
 have HEA := Lib.hid (Ext.alloc wb (.cells (ints .u8 (List.replicate 64 0)).toArray 30))
 have HL : Hid ((h.map bval).length = (ints .u8 (List.replicate 64 0)).length) := Lib.hid (by rw [List.length_map, HHL.out, ints_length]; rfl)
 go_upto_region 2 with (refine wpList_store_blk rfl _ _ _ rfl wb.heap.size (h.map bval) rfl rfl _ _ HZ.out HL.out (sig_size HHL.out) (bval_one _) ?_; intro w2 hb2 hg2)
 have HX := Lib.hid (ext_grown HEA.out hg2 (Nat.le_refl _))
 obtain ⟨S, hS⟩ : ∃ S, S = wb.heap.size := ⟨_, rfl⟩
 have HAS : Hid (A + 1 < S) := Lib.hid (by rw [hS]; exact HR.out.lt)
 have HR := Lib.hid (ext_blk HR.out HX.out)
 have HE := Lib.hid (HE.out.trans HX.out)
 rw [← hS] at hb2 ⊢
 have H4 := Lib.hid hb2
 clear hb2 hg2 HZ HEA HX HL hS
 have HXA := Ext.alloc w2 (.cells (ints .u8 (List.replicate 32 0)).toArray 23)
 obtain ⟨O, hO⟩ : ∃ O, O = w2.heap.size := ⟨_, rfl⟩
 have HOA : Hid (A + 1 < O ∧ S < O ∧ w.heap.size ≤ O) := Lib.hid (by have := H4.out.lt; have := HE.out.size; have := HAS.out; omega)
 have H5 : Hid (Blk (w2.alloc (.cells (ints .u8 (List.replicate 32 0)).toArray 23)) O ((List.replicate 32 (0 : UInt8)).map bval) 23) := Lib.hid (by rw [hO]; exact Blk.made w2 (ints .u8 (List.replicate 32 0)) 23)
 have HR := Lib.hid (ext_blk HR.out HXA)
 have H4 := Lib.hid (ext_blk H4.out HXA)
 have HE := Lib.hid (HE.out.trans HXA)
 clear HXA
 go_upto_region 3 with (fail)
 change Code.wp _ _ _ _ (w2.alloc (.cells (ints .u8 (List.replicate 32 0)).toArray 23))
 rw [← hO]
 clear hO
 generalize w2.alloc (.cells (ints .u8 (List.replicate 32 0)).toArray 23) = w3 at *
 refine wp_region_from 2 1 2 rfl (by kernel_rfl) (by kernel_rfl) (fun d v c a w h => by cases d <;> exact h) (by kernel_rfl) ?_
 refine det_val (.slice (some ⟨O, 0, none⟩) 32 32) (by rfl) (fun w hw => by go_simp) ?_
 simp only [Act.put, nrm]
 refine det_val (.slice (some ⟨S, 0, none⟩) 32 64) (by rfl) (fun w hw => by go_simp) ?_
 simp only [Act.put, nrm]
 refine det_nil (end_store (k := 2) rfl (by kernel_rfl) (by kernel_rfl) (by kernel_rfl) rfl (fun w4 hw4 => ?_))
 have HR := Lib.hid (ext_blk HR.out hw4)
 have H4 := Lib.hid (ext_blk H4.out hw4)
 have H5 := Lib.hid (ext_blk H5.out hw4)
 have HE := Lib.hid (HE.out.trans hw4)
 clear hw4
 have HTL : Hid ((h.take 32).length = 32) := Lib.hid (by rw [List.length_take, HHL.out]; rfl)
 refine wp_copy_blk _ _ 33 33 rfl 5 Tryd.underlying33 u8_one _ _ _ _ _ _ rfl rfl O 0 _ _ H5.out ((h.take 32).map bval) (by rw [List.length_map, HTL.out]; rfl) (fun _ => ⟨rfl, ⟨S, 0, none⟩, rfl, fun j v hj => ?_⟩) (by rw [List.length_map, HTL.out]; simp) (bval_one _) ?_
 ·have hj2 : j < 32 := by
   rcases Nat.lt_or_ge j 32 with h' | h'
   ·exact h'
   ·rw [List.getElem?_eq_none (by rw [List.length_map, HTL.out]; omega)] at hj; cases hj
  rw [WideShapes.add_plain, Nat.zero_add, H4.out.cell, ← hj, List.getElem?_map, List.getElem?_map, List.getElem?_take, if_pos hj2]
 intro w5 hb5 hg5
 have e32 : splice ((List.replicate 32 (0 : UInt8)).map bval) 0 ((h.take 32).map bval) = (h.take 32).map bval := by
  rw [splice_bytes, HTL.out]
  simp
 rw [e32] at hb5
 have HR := Lib.hid (HR.out.grown hg5 (by have := HOA.out; simp; omega))
 have H4 := Lib.hid (H4.out.grown hg5 (by have := HOA.out; simp; omega))
 have HE := Lib.hid (ext_grown HE.out hg5 HOA.out.2.2)
 have H5 := Lib.hid hb5
 clear hb5 hg5 e32
 generalize goInt ((h.take 32).map bval).length = g1
 simp only [Act.put, nrm]
 have HCL := Lib.hid (clampB_length HTL.out)
 rw [← HSA.out] at HCL
 have HC : Hid (∀ w, Calls Tryd.prog 52 #[.agg ((h.take 32).map bval).toArray] w fun e w' => e = .returned (.agg ((secA s).map bval).toArray) ∧ Below w.heap.size w w') := Lib.hid (fun w => by rw [HSA.out]; exact rclamped_any _ w HTL.out)
 have HRS : Hid (Row1 w5 (.slice (some ⟨S, 32, none⟩) 32 32) ((h.drop 32).map bval)) := Lib.hid (by
  have h1 := row_cut Tryd.underlying33 Tryd.sizeOf5 (blk_row (n := 64) H4.out (by rw [List.length_map, HHL.out]) (by unfold maxLen; omega)) 32 (by rw [List.length_map, HHL.out]; omega)
  refine ⟨some ⟨S, 32, none⟩, 32, by rw [List.length_map, List.length_drop, HHL.out], by rw [List.length_map, List.length_drop, HHL.out]; omega, by unfold maxLen; omega, (fun e => by cases e), fun _ => ⟨S, 32, rfl, H4.out.lt, fun i hi => ?_⟩⟩
  rw [H4.out.cell, List.getElem?_map, List.getElem?_map, List.getElem?_drop])
 have HDL : Hid ((h.drop 32).length = 32) := Lib.hid (by rw [List.length_drop, HHL.out])
 have HO : Hid (A + 1 < O) := Lib.hid HOA.out.1
 generalize h.take 32 = ht at *
 generalize h.drop 32 = hd at *
 go_upto_region 4 with (fail)
 have rs := HRS.out
 have B0 : Ext w5 w5.drew := Ext.drew _
 refine wp_region_held_drew (S := fun w' => Far (A + 1) w5 w') (by kernel_rfl) (fars_ext B0) (fun hHeld => ?_)
 have rs := rs.below (Ext.drew _)
 refine wpAnyH_take (i := 0) (v := .agg ((ht).map bval).toArray) rfl (by kernel_rfl) (by kernel_rfl) (by kernel_rfl) (fun _ _ _ h => h) (yieldsIf_load_mid (by rfl) _ _ rfl O 0 rfl _ _ (fun w h => fars_range H5.out (by have := HO.out; omega) h) Tryd.underlying23 rfl (num_size HTL.out)) hHeld ?_
 simp only [Act.put, nrm]
 refine wpAnyH_take (i := 2) (v := .slice (some ⟨S, 32, none⟩) 32 32) rfl (by kernel_rfl) (by kernel_rfl) (by kernel_rfl) (fun _ _ _ h => h) (yi_slice _ _ _ _ (.pointer (some ⟨S, 0, none⟩)) (.slice (some ⟨S, 32, none⟩) 32 32) (some (.int .i64 32)) none (by rfl) rfl rfl rfl rfl (fun w => by go_simp)) hHeld ?_
 simp only [Act.put, nrm]
 refine wpAnyH_ready (rs := [1]) (by kernel_rfl) (by simp) (AllReadyH.cons rfl (fun K hK => ?_) AllReadyH.nil)
 go_simp
 refine (HC.out _).mono ?_
 rintro e m1 ⟨rfl, b1⟩
 have rs := rs.below b1
 have N1 : Ext w5 m1 := B0.trans b1
 refine hK.out _ _ (fars_ext N1) (fun hHeld => ?_)
 clear hK K
 try simp only [Act.put, nrm]
 refine wpAnyH_ready (rs := [3]) (by kernel_rfl) (by simp) (AllReadyH.cons rfl (fun K hK => ?_) AllReadyH.nil)
 refine step_wp (by rfl) ?_
 refine wp_append_row _ _ 33 rfl (m1).heap.size 5 i0 (.int .u8 0) 1 Tryd.underlying33 HI0.out HZ0.out HZ1.out HZ2.out rfl (.slice none 0 0) 0 [] rfl (World.ownsRow_nil _ _ _ _) rfl rs (bval_one _) (by rw [List.length_map, HDL.out]; unfold maxLen; omega) (by rw [List.length_map, HDL.out]; omega) (Nat.le_refl _) ?_
 intro v2 m2 ho2 hg2
 have b2 : Ext m1 m2 := ext_own (Ext.refl _) (World.ownsRow_nil _ _ 5 _) (Nat.le_refl _) hg2
 have rs := rs.below b2
 rw [List.nil_append] at ho2
 have r2 : Row1 m2 v2 ((hd).map bval) := Row1.of_own ho2
 have N2 : Ext w5 m2 := N1.trans b2
 have own_far : Hid (v2.ownBlock ≠ some (A + 1)) := Lib.hid (Row1.own_ne ho2 (by have := HOA.out; have := H5.out.lt; have := N1.size; omega))
 refine hK.out _ _ (fars_ext N2) (fun hHeld => ?_)
 clear hK K
 try simp only [Act.put, nrm]
 refine wpAnyH_ready (rs := [4]) (by kernel_rfl) (by simp) (AllReadyH.cons rfl (fun K hK => ?_) AllReadyH.nil)
 refine step_wp (by rfl) ?_
 refine wp_store_blk _ _ _ rfl (A + 1) ((secA s).map bval) rfl rfl _ _ (ext_blk HR.out N2) (by rw [List.length_map, HCL.out, ints_length]; rfl) (num_size (HCL.out)) (bval_one _) ?_
 intro m3 hb3 hg3
 refine hK.out _ _ (fars_put N2 hg3) (fun hHeld => ?_)
 clear hK K
 try simp only [Act.put, nrm]
 refine wpAnyH_ready (rs := [5]) (by kernel_rfl) (by simp) (AllReadyH.cons rfl (fun K hK => ?_) AllReadyH.nil)
 go_simp
 refine hK.out _ _ (fars_put N2 hg3) (fun hHeld => ?_)
 clear hK K
 try simp only [Act.put, nrm]
 refine wpAnyH_done (by kernel_rfl) ?_ _
 go_wp2_with fail
 refine bodyPost_ret (result_row_tmp rfl _ (A + 1) _ _ _ rfl hb3 Tryd.underlying23 rfl (num_size HCL.out)) rfl ?_
 refine ⟨_, rfl, ?_, ext_grown (HE.out.trans N2) hg3 (by have := HAW.out; omega)⟩
 rw [HSH.out]
 exact r2.grown hg3 (fun k hk e => by cases hk; exact own_far.out e)
set_option maxRecDepth 100000 in
set_option maxHeartbeats 8000000 in
theorem rpublic_f (s : List UInt8) (w : World) (hs : s.length = 32) (hK : GlobK5 w) (hD : GlobD w) (hX : GlobX w) (hY : GlobY w) : Calls Tryd.prog 11 #[.agg (s.map bval).toArray] w fun e w' => e = .returned (.agg ((edPub s).map bval).toArray) ∧ Below w.heap.size w w' := by
 have HSL := Lib.hid hs
 have HK := Lib.hid hK
 have HGD := Lib.hid hD
 have HGX := Lib.hid hX
 have HGY := Lib.hid hY
 have HB := Lib.hid (boxes2 w (s.map bval) (ints .u8 (List.replicate 32 0)) 23 23)
 clear hs hK hD hX hY
 go_enter Tryd.func11, Tryd.ntmps11
 go_upto_region 1 with (fail)
 obtain ⟨H1, H2, HE⟩ := HB.out
 change Code.wp _ _ _ _ ((w.alloc (.cells (s.map bval).toArray 23)).alloc (.cells (ints .u8 (List.replicate 32 0)).toArray 23))
 generalize (w.alloc (.cells (s.map bval).toArray 23)).alloc (.cells (ints .u8 (List.replicate 32 0)).toArray 23) = wa at *
 obtain ⟨A, hA⟩ : ∃ A, A = w.heap.size := ⟨_, rfl⟩
 have HAW : Hid (w.heap.size ≤ A) := Lib.hid (by omega)
 rw [← hA] at H1 H2 ⊢
 have HS := Lib.hid H1
 have HR := Lib.hid H2
 have HE : Hid (Ext w wa) := Lib.hid HE
 clear hA HB H1 H2
 go_wp2_with (refine wpList_load_blk rfl _ _ rfl A rfl _ _ _ _ HS.out Tryd.underlying23 (num_size HSL.out) ?_)
 refine (rparts_f s wa HSL.out (HK.out.ext HE.out)).mono ?_
 rintro e wb ⟨x, rfl, hx, hb⟩
 have HR := Lib.hid (ext_blk HR.out hb)
 have HE := Lib.hid (HE.out.trans hb)
 clear hx hb HS
 have HAL : Hid ((secA s).length = 32) := Lib.hid (by unfold secA; exact clampB_length (by rw [List.length_take, sha512_length]; rfl))
 have HPB : Hid (edPub s = encB (pmul (leN (secA s)) bP)) := Lib.hid rfl
 generalize secA s = a at *
 have HZ := Lib.hid (Blk.made wb (ints .u8 (List.replicate 32 0)) 23)
 have HEA := Lib.hid (Ext.alloc wb (.cells (ints .u8 (List.replicate 32 0)).toArray 23))
 have HL : Hid ((a.map bval).length = (ints .u8 (List.replicate 32 0)).length) := Lib.hid (by rw [List.length_map, HAL.out, ints_length]; rfl)
 go_upto_region 2 with (refine wpList_store_blk rfl _ _ _ rfl wb.heap.size (a.map bval) rfl rfl _ _ HZ.out HL.out (num_size HAL.out) (bval_one _) ?_; intro wc hb2 hg2)
 have HXX := Lib.hid (ext_grown HEA.out hg2 (Nat.le_refl _))
 obtain ⟨T, hT⟩ : ∃ T, T = wb.heap.size := ⟨_, rfl⟩
 have HO : Hid (A + 1 < T) := Lib.hid (by rw [hT]; exact HR.out.lt)
 have HR := Lib.hid (ext_blk HR.out HXX.out)
 have HE := Lib.hid (HE.out.trans HXX.out)
 rw [← hT] at hb2 ⊢
 have HT := Lib.hid hb2
 clear hb2 hg2 HZ HEA HXX HL hT
 have HIS := Lib.hid (erun_full (Pt.es_is bP) (m := 256) (n := leN a) (by have := leN_lt a; rw [HAL.out] at this; exact Nat.lt_of_lt_of_eq this (by decide +kernel)))
 have B0 : Ext wc wc.drew := Ext.drew _
 refine wp_region_held_drew (S := fun w' => Far (A + 1) wc w') (by kernel_rfl) (fars_ext B0) (fun hHeld => ?_)
 refine wpAnyH_take (i := 1) (v := .agg ((a).map bval).toArray) rfl (by kernel_rfl) (by kernel_rfl) (by kernel_rfl) (fun _ _ _ h => h) (yieldsIf_load_mid (by rfl) _ _ rfl T 0 rfl _ _ (fun w h => fars_range HT.out (by have := HO.out; omega) h) Tryd.underlying23 rfl (num_size HAL.out)) hHeld ?_
 simp only [Act.put, nrm]
 refine wpAnyH_ready (rs := [0]) (by kernel_rfl) (by simp) (AllReadyH.cons rfl (fun K hK => ?_) AllReadyH.nil)
 go_simp
 refine (rbase_f _ (HGX.out.ext (HE.out.trans B0)) (HGY.out.ext (HE.out.trans B0))).mono ?_
 rintro e m1 ⟨v1, rfl, e1, b1⟩
 obtain ⟨a1, c1, d1, g1, hz1, z1⟩ := e1
 subst hz1
 have N1 : Ext wc m1 := B0.trans b1
 refine hK.out _ _ (fars_ext N1) (fun hHeld => ?_)
 clear hK K
 try simp only [Act.put, nrm]
 refine wpAnyH_ready (rs := [2]) (by kernel_rfl) (by simp) (AllReadyH.cons rfl (fun K hK => ?_) AllReadyH.nil)
 go_simp
 refine (rmany_f _ bP.es a _ (⟨_, _, _, _, rfl, z1⟩ : PtV _ (bP.es)) HAL.out (HGD.out.ext (HE.out.trans N1))).mono ?_
 rintro e m2 ⟨v2, rfl, e2, b2⟩
 obtain ⟨a2, c2, d2, g2, hz2, z2⟩ := e2
 subst hz2
 have N2 : Ext wc m2 := N1.trans b2
 refine hK.out _ _ (fars_ext N2) (fun hHeld => ?_)
 clear hK K
 try simp only [Act.put, nrm]
 refine wpAnyH_ready (rs := [3]) (by kernel_rfl) (by simp) (AllReadyH.cons rfl (fun K hK => ?_) AllReadyH.nil)
 go_simp
 refine (rwritten_f _ _ (pmul (leN a) bP) _ (⟨_, _, _, _, rfl, z2⟩ : PtV _ (erun 256 bP.es (leN a) 256)) HIS.out).mono ?_
 rintro e m3 ⟨rfl, b3⟩
 have N3 : Ext wc m3 := N2.trans b3
 refine hK.out _ _ (fars_ext N3) (fun hHeld => ?_)
 clear hK K
 try simp only [Act.put, nrm]
 refine wpAnyH_ready (rs := [4]) (by kernel_rfl) (by simp) (AllReadyH.cons rfl (fun K hK => ?_) AllReadyH.nil)
 refine step_wp (by rfl) ?_
 refine wp_store_blk _ _ _ rfl (A + 1) ((encB (pmul (leN a) bP)).map bval) rfl rfl _ _ (ext_blk HR.out N3) (by rw [List.length_map, encB_length, ints_length]; rfl) (num_size ((encB_length _))) (bval_one _) ?_
 intro m4 hb4 hg4
 refine hK.out _ _ (fars_put N3 hg4) (fun hHeld => ?_)
 clear hK K
 try simp only [Act.put, nrm]
 refine wpAnyH_done (by kernel_rfl) ?_ _
 go_wp2_with fail
 refine bodyPost_ret (result_blk rfl _ (A + 1) _ _ _ _ rfl hb4 Tryd.underlying23 (num_size (encB_length _))) rfl ?_
 exact ⟨by rw [HPB.out], ext_grown (HE.out.trans N3) hg4 (by have := HAW.out; omega)⟩
end Go.Proofs.YtckggbkoabmjiaaDoor
